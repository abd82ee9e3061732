"""core: many inputs against a second way to count, and what follows from the words."""

import itertools
import random
import unittest

from groupscore.leaving import core, leavers


def told_out(people):
    """Each way to be in groups, as a list of lists of people: the first one's company, then the others' ways."""
    if not people:
        return [[]]
    first, rest = people[0], people[1:]
    found = []
    for size in range(len(rest) + 1):
        for company in itertools.combinations(rest, size):
            left = [person for person in rest if person not in company]
            for others in told_out(left):
                found.append([[first, *company]] + others)
    return found


def gains(n, worth, way, company):
    """Of each of the company: how much more they would have with just these than they have now."""
    def has(person, group):
        return sum(worth[person * n + other] for other in group if other != person)

    home = {person: group for group in way for person in group}
    return [has(person, company) - has(person, home[person]) for person in company]


def leaves(w, more):
    if w == 0:
        return all(gain > 0 for gain in more)
    return all(gain >= 0 for gain in more) and any(gain > 0 for gain in more)


def counted(n, w, worth):
    """What core is to answer, found from the words."""
    companies = [company for size in range(1, n + 1) for company in itertools.combinations(range(n), size)]
    return [sum(1 for way in told_out(list(range(n)))
                if not any(leaves(w, gains(n, worth, way, company)) for company in companies))]


def with_others(n, others, own):
    """A worth list of what the others are worth, with own for oneself."""
    rest = iter(others)
    return [own if k % (n + 1) == 0 else next(rest) for k in range(n * n)]


def as_groups(n, way):
    """Of each person the number of their group."""
    return [[person in group for group in way].index(True) for person in range(n)]


class AgainstASecondCount(unittest.TestCase):
    def same(self, n, worth):
        for w in (0, 1):
            self.assertEqual(core(n, w, worth), counted(n, w, worth), (n, w, worth))

    def test_how_many_ways_there_are(self):
        self.assertEqual([len(told_out(list(range(n)))) for n in range(1, 6)], [1, 2, 5, 15, 52])

    def test_one_person(self):
        for value in range(-20, 21):
            self.same(1, [value])

    def test_two_people(self):
        for others in itertools.product(range(-20, 21), repeat=2):
            self.same(2, with_others(2, others, 7))

    def test_three_people(self):
        for others in itertools.product((-1, 0, 1), repeat=6):
            self.same(3, with_others(3, others, -7))

    def test_drawn_inputs(self):
        draw = random.Random(2027)
        for n, turns in ((2, 200), (3, 200), (4, 100), (5, 30)):
            for least, most in ((-1, 1), (-1, 3), (-3, 1), (-5, 5), (-20, 20)):
                for turn in range(turns):
                    self.same(n, [draw.randint(least, most) for k in range(n * n)])

    def test_drawn_from_far_apart(self):
        draw = random.Random(2028)
        for n, turns in ((3, 200), (4, 100), (5, 50)):
            for turn in range(turns):
                self.same(n, [draw.choice((-20, -1, 0, 0, 1, 2, 20)) for k in range(n * n)])


class WhatFollows(unittest.TestCase):
    def drawn(self, seed, turns):
        draw = random.Random(seed)
        for turn in range(turns):
            n = draw.randint(1, 5)
            reach = draw.choice((1, 2, 20))
            yield n, [draw.randint(-reach, reach) for k in range(n * n)]

    def test_what_holds_against_weak_leaving_holds(self):
        for n, worth in self.drawn(22, 300):
            self.assertLessEqual(core(n, 1, worth)[0], core(n, 0, worth)[0])

    def test_where_it_holds_nobody_has_less_than_alone(self):
        for n, worth in self.drawn(23, 150):
            fair = [way for way in told_out(list(range(n)))
                    if all(max(gains(n, worth, way, [person])) <= 0 for person in range(n))]
            self.assertLessEqual(core(n, 0, worth)[0], len(fair))

    def test_it_counts_the_ways_that_leavers_leaves_alone(self):
        for n, worth in self.drawn(24, 60):
            ways = [as_groups(n, way) for way in told_out(list(range(n)))]
            for w in (0, 1):
                held = [groups for groups in ways if leavers(n, w, worth, groups) == [0]]
                self.assertEqual(core(n, w, worth), [len(held)])

    def test_it_is_the_same_however_people_are_numbered(self):
        for n, worth in self.drawn(25, 15):
            for w in (0, 1):
                expected = core(n, w, worth)
                for order in list(itertools.permutations(range(n)))[::7]:
                    other = [worth[i * n + j] for i in order for j in order]
                    self.assertEqual(core(n, w, other), expected)

    def test_the_form_of_the_answer(self):
        for n, worth in self.drawn(26, 100):
            for w in (0, 1):
                answer = core(n, w, worth)
                self.assertIs(type(answer), list)
                self.assertEqual([type(number) for number in answer], [int])
                self.assertTrue(0 <= answer[0] <= (1, 2, 5, 15, 52)[n - 1])


if __name__ == "__main__":
    unittest.main()
