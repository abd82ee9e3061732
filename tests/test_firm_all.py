"""firm: many inputs against sets that are reckoned otherwise, and what follows from the words."""

import itertools
import random
import unittest

from groupscore.leaving import core, firm, leavers, nth


def companies(people):
    """All of the people's companies but the empty one."""
    return [set(company) for size in range(1, len(people) + 1)
            for company in itertools.combinations(sorted(people), size)]


def reckoned(n, worth):
    """What firm is to answer, found from the words with sets of people."""
    def has(person, company):
        return sum(worth[person * n + other] for other in company - {person})

    found = []
    for whole in companies(range(n)):
        better = [lesser for lesser in companies(whole)
                  if lesser < whole and all(has(person, lesser) > has(person, whole) for person in lesser)]
        if not better:
            found.append(sum(2 ** person for person in whole))
    return [len(found)] + sorted(found)


def with_others(n, others, own):
    """A worth list of what the others are worth, with own for oneself."""
    rest = iter(others)
    return [own if k % (n + 1) == 0 else next(rest) for k in range(n * n)]


class AgainstASecondReckoning(unittest.TestCase):
    def same(self, n, worth):
        self.assertEqual(firm(n, worth), reckoned(n, worth), (n, worth))

    def test_one_person(self):
        for value in range(-20, 21):
            self.same(1, [value])

    def test_two_people(self):
        for others in itertools.product(range(-20, 21), repeat=2):
            self.same(2, with_others(2, others, 7))

    def test_three_people(self):
        for others in itertools.product((-2, -1, 0, 1), repeat=6):
            self.same(3, with_others(3, others, -7))

    def test_worths_all_the_same(self):
        for n in range(1, 6):
            for value in (-20, -1, 0, 1, 20):
                self.same(n, [value] * (n * n))

    def test_drawn_inputs(self):
        draw = random.Random(2033)
        for n, turns in ((2, 100), (3, 200), (4, 100), (5, 40)):
            for least, most in ((-1, 1), (-1, 3), (-3, 1), (-5, 5), (-5, 9), (-20, 20)):
                for turn in range(turns):
                    self.same(n, [draw.randint(least, most) for k in range(n * n)])

    def test_drawn_with_few_below_0(self):
        # So the greater sets are often firm, and not only for one person's sake.
        draw = random.Random(2034)
        for n, turns in ((3, 100), (4, 100), (5, 60)):
            for turn in range(turns):
                self.same(n, [draw.choice((0, 0, 1, 2, 3, 20, -1)) for k in range(n * n)])


class WhatFollows(unittest.TestCase):
    def drawn(self, seed, turns):
        draw = random.Random(seed)
        for turn in range(turns):
            n = draw.randint(1, 5)
            least, most = draw.choice(((-1, 1), (-1, 2), (-2, 5), (-20, 20)))
            yield n, [draw.randint(least, most) for k in range(n * n)]

    def test_each_group_of_one_that_holds_is_firm(self):
        groups_seen = 0
        for n, worth in self.drawn(51, 150):
            sets = firm(n, worth)[1:]
            for k in range(core(n, 0, worth)[0]):
                groups = nth(n, 0, k, worth)[1:n + 1]
                for group in set(groups):
                    self.assertIn(sum(2 ** i for i in range(n) if groups[i] == group), sets, (n, worth, groups))
                    groups_seen += 1
        self.assertGreater(groups_seen, 150)

    def test_each_set_of_one_person_is_firm(self):
        for n, worth in self.drawn(52, 300):
            for person in range(n):
                self.assertIn(2 ** person, firm(n, worth)[1:], (n, worth))

    def test_all_together_are_firm_just_where_none_of_them_leaves(self):
        seen = set()
        for n, worth in self.drawn(53, 300):
            expected = leavers(n, 0, worth, [0] * n) == [0]
            self.assertEqual(2 ** n - 1 in firm(n, worth)[1:], expected, (n, worth))
            seen.add(expected)
        self.assertEqual(seen, {False, True})

    def test_without_the_last_person_the_others_sets_stay(self):
        for n, worth in self.drawn(54, 200):
            if n > 1:
                fewer = [worth[i * n + j] for i in range(n - 1) for j in range(n - 1)]
                self.assertEqual(firm(n - 1, fewer)[1:],
                                 [people for people in firm(n, worth)[1:] if people < 2 ** (n - 1)])

    def test_the_form_of_the_answer(self):
        for n, worth in self.drawn(55, 300):
            answer = firm(n, worth)
            self.assertIs(type(answer), list)
            self.assertTrue(all(type(number) is int for number in answer))
            self.assertEqual(answer[0], len(answer) - 1)
            self.assertEqual(answer[1:], sorted(set(answer[1:])))
            self.assertTrue(all(1 <= people < 2 ** n for people in answer[1:]))


if __name__ == "__main__":
    unittest.main()
