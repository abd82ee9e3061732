"""leavers: many inputs against a second way to find the answer, and what follows from the words."""

import itertools
import random
import unittest

from groupscore.leaving import leavers


def looked_up(n, w, worth, groups):
    """What leavers is to answer, found from the words with sets and maps of people."""
    likes = {(i, j): worth[i * n + j] for i in range(n) for j in range(n) if i != j}

    def has(i, company):
        return sum(likes[i, j] for j in company if j != i)

    now = [has(i, {j for j in range(n) if groups[j] == groups[i]}) for i in range(n)]
    found = []
    for size in range(1, n + 1):
        for company in itertools.combinations(range(n), size):
            gains = [has(i, company) - now[i] for i in company]
            if min(gains) > 0 or (w == 1 and min(gains) == 0 and max(gains) > 0):
                found.append(sum(2 ** i for i in company))
    return [len(found)] + sorted(found)


def with_others(n, others, own):
    """A worth list of what the others are worth, with own for oneself."""
    rest = iter(others)
    return [own if k % (n + 1) == 0 else next(rest) for k in range(n * n)]


class AgainstASecondWay(unittest.TestCase):
    def same(self, n, worth, groups):
        for w in (0, 1):
            self.assertEqual(leavers(n, w, worth, groups), looked_up(n, w, worth, groups), (n, w, worth, groups))

    def test_two_people(self):
        for others in itertools.product((-20, -2, -1, 0, 1, 2, 20), repeat=2):
            for groups in itertools.product(range(2), repeat=2):
                self.same(2, with_others(2, others, 7), list(groups))

    def test_three_people(self):
        for others in itertools.product((-1, 0, 1), repeat=6):
            for groups in ([0, 0, 0], [1, 1, 0], [2, 0, 2], [0, 2, 2], [0, 1, 2], [2, 1, 0]):
                self.same(3, with_others(3, others, -7), groups)

    def test_drawn_inputs(self):
        draw = random.Random(2026)
        for n in range(1, 6):
            for reach in (1, 2, 5, 20):
                for turn in range(150):
                    worth = [draw.randint(-reach, reach) for k in range(n * n)]
                    self.same(n, worth, [draw.randrange(n) for k in range(n)])


class WhatFollows(unittest.TestCase):
    def test_who_leaves_leaves_weakly_and_the_form_of_the_answer(self):
        draw = random.Random(22)
        for turn in range(600):
            n = draw.randint(1, 5)
            worth = [draw.randint(-3, 3) for k in range(n * n)]
            groups = [draw.randrange(n) for k in range(n)]
            strict = leavers(n, 0, worth, groups)
            weak = leavers(n, 1, worth, groups)
            self.assertLessEqual(set(strict[1:]), set(weak[1:]))
            for answer in (strict, weak):
                self.assertIs(type(answer), list)
                self.assertTrue(all(type(number) is int for number in answer))
                self.assertEqual(answer[0], len(answer) - 1)
                self.assertEqual(answer[1:], sorted(set(answer[1:])))
                self.assertTrue(all(1 <= people < 2 ** n for people in answer[1:]))

    def test_a_group_that_is_there_never_leaves(self):
        draw = random.Random(33)
        for turn in range(300):
            n = draw.randint(1, 5)
            worth = [draw.randint(-20, 20) for k in range(n * n)]
            groups = [draw.randrange(n) for k in range(n)]
            there = {sum(2 ** i for i in range(n) if groups[i] == group) for group in groups}
            for w in (0, 1):
                self.assertFalse(there & set(leavers(n, w, worth, groups)[1:]))

    def test_where_none_leaves_nobody_has_less_than_alone(self):
        draw = random.Random(44)
        for turn in range(600):
            n = draw.randint(1, 4)
            worth = [draw.randint(-2, 3) for k in range(n * n)]
            groups = [draw.randrange(n) for k in range(n)]
            if leavers(n, 0, worth, groups) == [0]:
                for i in range(n):
                    has = sum(worth[i * n + j] for j in range(n) if j != i and groups[j] == groups[i])
                    self.assertGreaterEqual(has, 0)


if __name__ == "__main__":
    unittest.main()
