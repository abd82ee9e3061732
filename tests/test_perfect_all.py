"""perfect: many inputs against a first way that is reckoned otherwise, and what follows from the words."""

import itertools
import random
import unittest

from groupscore.leaving import core, leavers, nth, perfect


def told_out(people):
    """Each way to be in groups, as a list of lists of people: the first one's company, then the others' ways."""
    if not people:
        return [[]]
    first, rest = people[0], people[1:]
    found = []
    for size in range(len(rest) + 1):
        for company in itertools.combinations(rest, size):
            left = [person for person in rest if person not in company]
            for others in told_out(left):
                found.append([[first, *company]] + others)
    return found


def numbers(n, way):
    """Of each person the number of their group; told_out tells the groups as they first come."""
    return [[person in group for group in way].index(True) for person in range(n)]


WAYS = {n: sorted(told_out(list(range(n))), key=lambda way: numbers(n, way)) for n in range(1, 6)}


def all_perfect(n, worth):
    """All perfect ways in order, found from the words: each as what perfect would answer, were it the first."""
    likes = {(i, j): worth[i * n + j] for i in range(n) for j in range(n) if i != j}
    liked = [sum(likes[i, j] for j in range(n) if j != i and likes[i, j] > 0) for i in range(n)]
    found = []
    for way in WAYS[n]:
        has = {i: sum(likes[i, j] for j in group if j != i) for group in way for i in group}
        if all(has[i] == liked[i] for i in range(n)):
            found.append([len(way)] + numbers(n, way))
    return found


def with_others(n, others, own):
    """A worth list of what the others are worth, with own for oneself."""
    rest = iter(others)
    return [own if k % (n + 1) == 0 else next(rest) for k in range(n * n)]


def drawn_around(draw, n, most):
    """A worth list under which some drawn groups are perfect: likes within them alone, dislikes across alone."""
    groups = [draw.randrange(n) for person in range(n)]
    return [draw.randint(0, most) if groups[i] == groups[j] else -draw.randint(0, most)
            for i in range(n) for j in range(n)]


class AgainstASecondReckoning(unittest.TestCase):
    def setUp(self):
        self.counts = []

    def same(self, n, worth):
        expected = all_perfect(n, worth)
        self.assertEqual(perfect(n, worth), expected[0] if expected else [-33], (n, worth))
        self.counts.append(len(expected))

    def test_all_ways_are_told_out_in_order(self):
        self.assertEqual([numbers(3, way) for way in WAYS[3]],
                         [[0, 0, 0], [0, 0, 1], [0, 1, 0], [0, 1, 1], [0, 1, 2]])
        self.assertEqual([len(WAYS[n]) for n in range(1, 6)], [1, 2, 5, 15, 52])

    def test_one_person(self):
        for value in range(-20, 21):
            self.same(1, [value])

    def test_two_people(self):
        for others in itertools.product(range(-20, 21), repeat=2):
            self.same(2, with_others(2, others, 7))

    def test_three_people(self):
        for others in itertools.product((-2, -1, 0, 1), repeat=6):
            self.same(3, with_others(3, others, -7))

    def test_worths_all_the_same(self):
        for n in range(1, 6):
            for value in (-20, -1, 0, 1, 20):
                self.same(n, [value] * (n * n))

    def test_drawn_inputs(self):
        draw = random.Random(2035)
        for n, turns in ((2, 100), (3, 100), (4, 60), (5, 30)):
            for least, most in ((-1, 1), (-1, 3), (-3, 0), (0, 3), (-5, 5), (-20, 20)):
                for turn in range(turns):
                    self.same(n, [draw.randint(least, most) for k in range(n * n)])

    def test_drawn_with_many_that_are_worth_0(self):
        # So there are often several perfect ways, and often none.
        draw = random.Random(2036)
        for n, turns in ((3, 100), (4, 100), (5, 100)):
            for turn in range(turns):
                self.same(n, [draw.choice((0, 0, 0, 0, 0, 0, 1, -1, -20)) for k in range(n * n)])
        self.assertGreater(self.counts.count(0), 30)
        self.assertGreater(self.counts.count(1), 30)
        self.assertGreater(len([count for count in self.counts if count > 1]), 30)

    def test_drawn_around_groups_that_are_perfect(self):
        draw = random.Random(2037)
        for n in range(1, 6):
            for most in (1, 2, 20):
                for turn in range(60):
                    self.same(n, drawn_around(draw, n, most))
        self.assertGreater(min(self.counts), 0)
        self.assertGreater(max(self.counts), 1)

    def test_drawn_around_such_groups_but_for_one_worth(self):
        draw = random.Random(2038)
        for n in range(2, 6):
            for turn in range(100):
                worth = drawn_around(draw, n, 3)
                worth[draw.randrange(n * n)] = draw.choice((-20, -1, 1, 20))
                self.same(n, worth)
        self.assertIn(0, self.counts)


class WhatFollows(unittest.TestCase):
    def drawn(self, seed, turns):
        """Worths of all kinds, about half of them with a perfect way."""
        draw = random.Random(seed)
        for turn in range(turns):
            n = draw.randint(1, 5)
            reach = draw.choice((1, 1, 2, 20))
            if draw.randrange(2) == 0:
                yield n, drawn_around(draw, n, reach)
            else:
                yield n, [draw.randint(-reach, reach) for k in range(n * n)]

    def drawn_perfect(self, seed, turns):
        """Those of the drawn worths that have a perfect way, with its groups."""
        for n, worth in self.drawn(seed, turns):
            answer = perfect(n, worth)
            if answer != [-33]:
                yield n, worth, answer[1:]

    def test_no_set_leaves_a_perfect_way_not_even_weakly(self):
        seen = 0
        for n, worth, groups in self.drawn_perfect(61, 300):
            seen += 1
            for w in (0, 1):
                self.assertEqual(leavers(n, w, worth, groups), [0], (n, w, worth))
        self.assertGreater(seen, 100)

    def test_a_perfect_way_is_among_those_that_hold(self):
        for n, worth, groups in self.drawn_perfect(62, 100):
            for w in (0, 1):
                ways = [nth(n, w, k, worth)[:n + 1] for k in range(core(n, w, worth)[0])]
                self.assertIn([len(set(groups))] + groups, ways, (n, w, worth))

    def test_where_nothing_holds_nothing_is_perfect(self):
        draw = random.Random(63)
        seen = 0
        for turn in range(1000):
            worth = [draw.randint(-4, 4) for k in range(16)]
            if core(4, 1, worth) == [0]:
                self.assertEqual(perfect(4, worth), [-33], worth)
                seen += 1
        self.assertGreater(seen, 0)

    def test_all_whom_one_likes_are_there_and_nobody_whom_one_dislikes(self):
        for n, worth, groups in self.drawn_perfect(64, 300):
            for i, j in itertools.permutations(range(n), 2):
                if worth[i * n + j] > 0:
                    self.assertEqual(groups[i], groups[j], (n, worth))
                if worth[i * n + j] < 0:
                    self.assertNotEqual(groups[i], groups[j], (n, worth))

    def test_only_more_or_less_than_0_matters(self):
        for n, worth in self.drawn(65, 300):
            signs = [(value > 0) - (value < 0) for value in worth]
            self.assertEqual(perfect(n, signs), perfect(n, worth))
            self.assertEqual(perfect(n, [20 * sign for sign in signs]), perfect(n, worth))

    def test_it_is_the_same_whichever_of_two_likes_the_other(self):
        for n, worth in self.drawn(66, 300):
            turned = [worth[j * n + i] for i in range(n) for j in range(n)]
            self.assertEqual(perfect(n, turned), perfect(n, worth))

    def test_the_form_of_the_answer(self):
        for n, worth in self.drawn(67, 300):
            answer = perfect(n, worth)
            self.assertIs(type(answer), list)
            self.assertTrue(all(type(number) is int for number in answer))
            if answer != [-33]:
                self.assertEqual(len(answer), 1 + n)
                self.assertEqual(sorted(set(answer[1:])), list(range(answer[0])))
                groups = answer[1:]
                self.assertTrue(all(groups[i] <= max(groups[:i], default=-1) + 1 for i in range(n)), groups)


if __name__ == "__main__":
    unittest.main()
