"""leave: every set, for many inputs, against answers that are reckoned otherwise, and what follows from the words."""

import itertools
import random
import unittest

from groupscore.leaving import leave, leavers


def people_of(n, s):
    return {person for person in range(n) if s // 2 ** person % 2 == 1}


def reckoned(n, s, worth, groups):
    """What leave is to answer, found from the words with sets of people."""
    def has(person, company):
        return sum(worth[person * n + other] for other in company - {person})

    those = people_of(n, s)
    before = [{other for other in range(n) if groups[other] == groups[person]} for person in range(n)]
    gains = [has(person, those) - has(person, before[person]) for person in sorted(those)]
    if all(gain > 0 for gain in gains):
        how = 2
    elif all(gain >= 0 for gain in gains) and any(gain > 0 for gain in gains):
        how = 1
    else:
        how = 0
    after = [those if person in those else before[person] - those for person in range(n)]
    # A group's number is how many groups came with somebody ahead of its first person.
    firsts = sorted({min(company) for company in after})
    return [how] + [firsts.index(min(company)) for company in after] + [has(i, after[i]) for i in range(n)]


def with_others(n, others, own):
    """A worth list of what the others are worth, with own for oneself."""
    rest = iter(others)
    return [own if k % (n + 1) == 0 else next(rest) for k in range(n * n)]


class AgainstASecondReckoning(unittest.TestCase):
    def same(self, n, worth, groups):
        for s in range(1, 2 ** n):
            self.assertEqual(leave(n, s, worth, groups), reckoned(n, s, worth, groups), (n, s, worth, groups))

    def test_one_person(self):
        for value in range(-20, 21):
            self.same(1, [value], [0])

    def test_two_people(self):
        for others in itertools.product((-20, -2, -1, 0, 1, 2, 20), repeat=2):
            for groups in itertools.product(range(2), repeat=2):
                self.same(2, with_others(2, others, 7), list(groups))

    def test_three_people(self):
        for others in itertools.product((-1, 0, 1), repeat=6):
            for groups in ([0, 0, 0], [1, 1, 0], [2, 0, 2], [0, 2, 2], [0, 1, 2], [2, 1, 0]):
                self.same(3, with_others(3, others, -7), groups)

    def test_all_groups_that_may_be_handed_over(self):
        draw = random.Random(2031)
        for n in range(1, 6):
            for groups in itertools.product(range(n), repeat=n):
                if n < 5 or draw.randrange(5) == 0:
                    self.same(n, [draw.randint(-20, 20) for k in range(n * n)], list(groups))

    def test_drawn_inputs(self):
        draw = random.Random(2032)
        for n in range(1, 6):
            for least, most in ((-1, 1), (-1, 3), (-3, 1), (-5, 5), (-20, 20)):
                for turn in range(60):
                    worth = [draw.randint(least, most) for k in range(n * n)]
                    self.same(n, worth, [draw.randrange(n) for k in range(n)])


class WhatFollows(unittest.TestCase):
    def drawn(self, seed, turns):
        draw = random.Random(seed)
        for turn in range(turns):
            n = draw.randint(1, 5)
            reach = draw.choice((1, 1, 2, 20))
            yield n, [draw.randint(-reach, reach) for k in range(n * n)], [draw.randrange(n) for k in range(n)]

    def test_it_tells_the_sets_that_leavers_tells(self):
        seen = set()
        for n, worth, groups in self.drawn(41, 300):
            strict = leavers(n, 0, worth, groups)[1:]
            weak = leavers(n, 1, worth, groups)[1:]
            for s in range(1, 2 ** n):
                expected = 2 if s in strict else 1 if s in weak else 0
                self.assertEqual(leave(n, s, worth, groups)[0], expected, (n, s, worth, groups))
                seen.add(expected)
        self.assertEqual(seen, {0, 1, 2})

    def test_left_by_a_set_all_of_it_have_what_they_have_among_themselves(self):
        for n, worth, groups in self.drawn(42, 200):
            for s in range(1, 2 ** n):
                answer = leave(n, s, worth, groups)
                for i in people_of(n, s):
                    among = sum(worth[i * n + j] for j in people_of(n, s) if j != i)
                    self.assertEqual(answer[1 + n + i], among)

    def test_who_is_together(self):
        for n, worth, groups in self.drawn(43, 200):
            for s in range(1, 2 ** n):
                left = leave(n, s, worth, groups)[1:n + 1]
                those = people_of(n, s)
                for i, j in itertools.product(range(n), repeat=2):
                    if i in those or j in those:
                        self.assertEqual(left[i] == left[j], i in those and j in those)
                    else:
                        self.assertEqual(left[i] == left[j], groups[i] == groups[j])

    def test_who_has_left_does_not_leave_again(self):
        for n, worth, groups in self.drawn(44, 100):
            for s in range(1, 2 ** n):
                answer = leave(n, s, worth, groups)
                self.assertEqual(leave(n, s, worth, answer[1:n + 1]), [0] + answer[1:])

    def test_the_form_of_the_answer(self):
        for n, worth, groups in self.drawn(45, 200):
            for s in range(1, 2 ** n):
                answer = leave(n, s, worth, groups)
                self.assertIs(type(answer), list)
                self.assertTrue(all(type(number) is int for number in answer))
                self.assertEqual(len(answer), 1 + 2 * n)
                left = answer[1:n + 1]
                self.assertTrue(all(left[i] <= max(left[:i], default=-1) + 1 for i in range(n)), left)


if __name__ == "__main__":
    unittest.main()
