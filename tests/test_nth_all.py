"""nth: every k, for many inputs, against ways that are reckoned otherwise, and what follows from the words."""

import itertools
import random
import unittest

from groupscore.leaving import core, leavers, nth

TOP = 4294967295


def told_out(people):
    """Each way to be in groups, as a list of lists of people: the first one's company, then the others' ways."""
    if not people:
        return [[]]
    first, rest = people[0], people[1:]
    found = []
    for size in range(len(rest) + 1):
        for company in itertools.combinations(rest, size):
            left = [person for person in rest if person not in company]
            for others in told_out(left):
                found.append([[first, *company]] + others)
    return found


def numbers(n, way):
    """Of each person the number of their group; told_out tells the groups as they first come."""
    return [[person in group for group in way].index(True) for person in range(n)]


def in_order(n):
    return sorted(told_out(list(range(n))), key=lambda way: numbers(n, way))


def has(n, worth, person, company):
    return sum(worth[person * n + other] for other in company if other != person)


def leaves(n, w, worth, way, company):
    home = {person: group for group in way for person in group}
    gains = [has(n, worth, person, company) - has(n, worth, person, home[person]) for person in company]
    if w == 0:
        return all(gain > 0 for gain in gains)
    return all(gain >= 0 for gain in gains) and any(gain > 0 for gain in gains)


def reckoned(n, w, worth):
    """What nth is to answer with each k from 0 on, as long as it is no refusal, found from the words."""
    companies = [company for size in range(1, n + 1) for company in itertools.combinations(range(n), size)]
    answers = []
    for way in in_order(n):
        if not any(leaves(n, w, worth, way, company) for company in companies):
            home = {person: group for group in way for person in group}
            answers.append([len(way)] + numbers(n, way) + [has(n, worth, i, home[i]) for i in range(n)])
    return answers


def with_others(n, others, own):
    """A worth list of what the others are worth, with own for oneself."""
    rest = iter(others)
    return [own if k % (n + 1) == 0 else next(rest) for k in range(n * n)]


class AgainstASecondReckoning(unittest.TestCase):
    def same(self, n, worth):
        for w in (0, 1):
            expected = reckoned(n, w, worth)
            self.assertEqual(core(n, w, worth), [len(expected)], (n, w, worth))
            for k in range(len(expected)):
                self.assertEqual(nth(n, w, k, worth), expected[k], (n, w, k, worth))
            for k in (len(expected), len(expected) + 1, TOP):
                self.assertEqual(nth(n, w, k, worth), [-33], (n, w, k, worth))

    def test_all_ways_are_told_out_in_order(self):
        self.assertEqual([numbers(3, way) for way in in_order(3)],
                         [[0, 0, 0], [0, 0, 1], [0, 1, 0], [0, 1, 1], [0, 1, 2]])
        self.assertEqual([len(in_order(n)) for n in range(1, 6)], [1, 2, 5, 15, 52])

    def test_worths_all_0(self):
        for n in range(1, 6):
            self.same(n, [0] * (n * n))

    def test_one_person(self):
        for value in range(-20, 21):
            self.same(1, [value])

    def test_two_people(self):
        for others in itertools.product(range(-20, 21), repeat=2):
            self.same(2, with_others(2, others, 7))

    def test_three_people(self):
        for others in itertools.product((-1, 0, 1), repeat=6):
            self.same(3, with_others(3, others, -7))

    def test_drawn_inputs(self):
        draw = random.Random(2029)
        for n, turns in ((2, 100), (3, 100), (4, 40), (5, 12)):
            for least, most in ((-1, 1), (-1, 3), (-3, 1), (-5, 5), (-20, 20)):
                for turn in range(turns):
                    self.same(n, [draw.randint(least, most) for k in range(n * n)])

    def test_drawn_with_many_that_are_worth_0(self):
        # So many ways hold, and k goes far.
        draw = random.Random(2030)
        for n, turns in ((3, 60), (4, 30), (5, 10)):
            for turn in range(turns):
                self.same(n, [draw.choice((0, 0, 0, 0, 0, 0, 1, -1, 20)) for k in range(n * n)])


class WhatFollows(unittest.TestCase):
    def drawn(self, seed, turns):
        draw = random.Random(seed)
        for turn in range(turns):
            n = draw.randint(1, 5)
            reach = draw.choice((1, 1, 2, 20))
            yield n, [draw.randint(-reach, reach) for k in range(n * n)]

    def all_of(self, n, w, worth):
        """The answers for each k until it is refused, which must be at what core answers."""
        answers = []
        while nth(n, w, len(answers), worth) != [-33]:
            answers.append(nth(n, w, len(answers), worth))
        self.assertEqual(core(n, w, worth), [len(answers)])
        return answers

    def test_what_holds_against_weak_leaving_holds(self):
        for n, worth in self.drawn(31, 80):
            strict = self.all_of(n, 0, worth)
            weak = self.all_of(n, 1, worth)
            self.assertEqual(weak, [answer for answer in strict if answer in weak])

    def test_where_it_holds_nobody_has_less_than_alone(self):
        for n, worth in self.drawn(32, 80):
            for w in (0, 1):
                for answer in self.all_of(n, w, worth):
                    self.assertGreaterEqual(min(answer[n + 1:]), 0)

    def test_nobody_leaves_what_is_answered(self):
        for n, worth in self.drawn(33, 80):
            for w in (0, 1):
                for answer in self.all_of(n, w, worth):
                    self.assertEqual(leavers(n, w, worth, answer[1:n + 1]), [0])

    def test_the_form_of_the_answer(self):
        for n, worth in self.drawn(34, 80):
            for w in (0, 1):
                answers = self.all_of(n, w, worth)
                for answer in answers:
                    self.assertIs(type(answer), list)
                    self.assertTrue(all(type(number) is int for number in answer))
                    self.assertEqual(len(answer), 1 + 2 * n)
                    self.assertEqual(sorted(set(answer[1:n + 1])), list(range(answer[0])))
                ways = [answer[1:n + 1] for answer in answers]
                self.assertTrue(all(ways[k] < ways[k + 1] for k in range(len(ways) - 1)))


if __name__ == "__main__":
    unittest.main()
