"""What the document says holds over the whole program, a to d, for drawn worths of 1 to 5 people."""

import itertools
import random
import unittest

from groupscore.leaving import core, firm, leave, leavers, nth, perfect


def drawn_around(draw, n, most):
    """Worths under which some drawn groups are perfect: likes within them alone, dislikes across alone."""
    groups = [draw.randrange(n) for person in range(n)]
    return [draw.randint(0, most) if groups[i] == groups[j] else -draw.randint(0, most)
            for i in range(n) for j in range(n)]


def drawn(seed, turns):
    """For each number of people worths of several kinds, so many of each kind."""
    draw = random.Random(seed)
    for n in range(1, 6):
        for turn in range(turns):
            for least, most in ((-1, 1), (-2, 5), (-20, 20)):
                yield n, [draw.randint(least, most) for k in range(n * n)]
            yield n, drawn_around(draw, n, draw.choice((1, 2, 20)))


def has(n, worth, person, company):
    """What the person has in a group of this company."""
    return sum(worth[person * n + other] for other in company if other != person)


def company_of(n, groups, group):
    return [person for person in range(n) if groups[person] == group]


def ways_that_hold(n, w, worth):
    """The groups of each way that nth tells."""
    return [nth(n, w, k, worth)[1:n + 1] for k in range(core(n, w, worth)[0])]


class Holding(unittest.TestCase):
    def test_a_what_holds_against_weak_leaving_holds(self):
        for n, worth in drawn(71, 12):
            strict = ways_that_hold(n, 0, worth)
            for groups in ways_that_hold(n, 1, worth):
                self.assertIn(groups, strict, (n, worth))
                self.assertEqual(leavers(n, 0, worth, groups), [0], (n, worth))

    def test_a_where_it_holds_nobody_has_less_than_alone(self):
        for n, worth in drawn(72, 12):
            for w in (0, 1):
                for groups in ways_that_hold(n, w, worth):
                    for person in range(n):
                        company = company_of(n, groups, groups[person])
                        self.assertGreaterEqual(has(n, worth, person, company), 0, (n, w, worth))

    def test_b_each_group_of_one_that_holds_is_firm(self):
        for n, worth in drawn(73, 12):
            sets = firm(n, worth)[1:]
            for groups in ways_that_hold(n, 0, worth):
                for group in groups:
                    people = sum(2 ** person for person in company_of(n, groups, group))
                    self.assertIn(people, sets, (n, worth, groups))


class Perfect(unittest.TestCase):
    def drawn_perfect(self, seed, turns):
        """The drawn worths that have a perfect way, and its groups; of each number of people there are some."""
        seen = set()
        for n, worth in drawn(seed, turns):
            answer = perfect(n, worth)
            if answer != [-33]:
                seen.add(n)
                yield n, worth, answer[1:]
        self.assertEqual(seen, {1, 2, 3, 4, 5})

    def test_c_a_perfect_one_holds_even_against_weak_leaving(self):
        for n, worth, groups in self.drawn_perfect(74, 20):
            for w in (0, 1):
                self.assertEqual(leavers(n, w, worth, groups), [0], (n, w, worth))
                self.assertIn(groups, ways_that_hold(n, w, worth), (n, w, worth))

    def test_c_nobody_would_rather_go_elsewhere(self):
        for n, worth, groups in self.drawn_perfect(75, 30):
            for person in range(n):
                now = has(n, worth, person, company_of(n, groups, groups[person]))
                # A number that no group has stands for going off alone.
                for group in range(n + 1):
                    self.assertLessEqual(has(n, worth, person, company_of(n, groups, group)), now, (n, worth))

    def test_c_each_group_of_a_perfect_one_is_firm(self):
        for n, worth, groups in self.drawn_perfect(76, 20):
            for group in groups:
                people = sum(2 ** person for person in company_of(n, groups, group))
                self.assertIn(people, firm(n, worth)[1:], (n, worth))


class Left(unittest.TestCase):
    def test_d_left_by_a_set_all_of_it_have_what_they_have_among_themselves(self):
        draw = random.Random(77)
        for n, worth in drawn(78, 12):
            groups = [draw.randrange(n) for person in range(n)]
            for size in range(1, n + 1):
                for company in itertools.combinations(range(n), size):
                    answer = leave(n, sum(2 ** person for person in company), worth, groups)
                    for person in company:
                        self.assertEqual(answer[1 + n + person], has(n, worth, person, company), (n, worth, groups))

    def test_d_a_set_leaves_just_where_all_of_it_have_more_left_by_it(self):
        draw = random.Random(79)
        for n, worth in drawn(80, 12):
            groups = [draw.randrange(n) for person in range(n)]
            would = leavers(n, 0, worth, groups)[1:]
            for people in range(1, 2 ** n):
                left = leave(n, people, worth, groups)[n + 1:]
                more = [left[person] > has(n, worth, person, company_of(n, groups, groups[person]))
                        for person in range(n) if people // 2 ** person % 2 == 1]
                self.assertEqual(people in would, all(more), (n, people, worth, groups))


if __name__ == "__main__":
    unittest.main()
