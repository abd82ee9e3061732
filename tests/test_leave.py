"""leave: answers worked out by hand, how groups are numbered, and the edges that the document names."""

import itertools
import unittest

from groupscore.leaving import leave, nth

# Told apart by what each has, whoever is with whom.
FOUR = [0, 1, 2, 4,
        8, 0, 16, -1,
        -2, -4, 0, -8,
        3, 5, 7, 0]


def ring(n, following, before, others):
    """A ring of n: what the next one, the one before, and all others are worth to each."""
    worth = [others] * (n * n)
    for person in range(n):
        worth[person * n + (person - 1) % n] = before
        worth[person * n + (person + 1) % n] = following
        worth[person * n + person] = 0
    return worth


def all_ways(n):
    """All ways to be in groups, numbered as they first come."""
    return [list(groups) for groups in itertools.product(range(n), repeat=n)
            if all(groups[i] <= max(groups[:i], default=-1) + 1 for i in range(n))]


class LeaveCase(unittest.TestCase):
    def answers(self, s, worth, groups, how, left, each_has):
        n = len(groups)
        self.assertEqual(leave(n, s, worth, groups), [how] + left + each_has, (n, s, worth, groups))

    def left(self, s, groups, expected):
        """How groups are left by the set, whatever each has."""
        n = len(groups)
        answer = leave(n, s, [0] * (n * n), groups)
        self.assertEqual(answer, [0] + expected + [0] * n, (s, groups))


class Ordinary(LeaveCase):
    def test_two_who_like_each_other(self):
        worth = [0, 3, 4, 0]
        self.answers(3, worth, [0, 1], 2, [0, 0], [3, 4])
        self.answers(3, worth, [0, 0], 0, [0, 0], [3, 4])
        for groups in ([0, 0], [0, 1]):
            for s in (1, 2):
                self.answers(s, worth, groups, 0, [0, 1], [0, 0])

    def test_two_who_do_not(self):
        worth = [0, -1, -2, 0]
        for s in (1, 2):
            self.answers(s, worth, [0, 0], 2, [0, 1], [0, 0])
            self.answers(s, worth, [0, 1], 0, [0, 1], [0, 0])
        for groups in ([0, 0], [0, 1]):
            self.answers(3, worth, groups, 0, [0, 0], [-1, -2])

    def test_two_of_whom_one_dislikes_the_other(self):
        self.answers(1, [0, 3, -1, 0], [0, 0], 0, [0, 1], [0, 0])
        self.answers(2, [0, 3, -1, 0], [0, 0], 2, [0, 1], [0, 0])
        self.answers(1, [0, -1, 3, 0], [0, 0], 2, [0, 1], [0, 0])
        self.answers(2, [0, -1, 3, 0], [0, 0], 0, [0, 1], [0, 0])

    def test_every_set_of_four(self):
        told = ((1, 0, [0, 1, 2, 2], [0, 0, -8, 7]),
                (2, 0, [0, 1, 2, 2], [0, 0, -8, 7]),
                (3, 0, [0, 0, 1, 1], [1, 8, -8, 7]),
                (4, 2, [0, 0, 1, 2], [1, 8, 0, 0]),
                (5, 2, [0, 1, 0, 2], [2, 0, -2, 0]),
                (6, 2, [0, 1, 1, 2], [0, 16, -4, 0]),
                (7, 2, [0, 0, 0, 1], [3, 24, -6, 0]),
                (8, 0, [0, 0, 1, 2], [1, 8, 0, 0]),
                (9, 0, [0, 1, 2, 0], [4, 0, 0, 3]),
                (10, 0, [0, 1, 2, 1], [0, -1, 0, 5]),
                (11, 0, [0, 0, 1, 0], [5, 7, 0, 8]),
                (12, 0, [0, 0, 1, 1], [1, 8, -8, 7]),
                (13, 0, [0, 1, 0, 0], [6, 0, -10, 10]),
                (14, 0, [0, 1, 1, 1], [0, 15, -12, 12]),
                (15, 0, [0, 0, 0, 0], [7, 23, -14, 15]))
        for s, how, left, each_has in told:
            for groups in ([0, 0, 1, 1], [1, 1, 0, 0], [3, 3, 2, 2], [0, 0, 3, 3], [3, 3, 0, 0]):
                self.answers(s, FOUR, groups, how, left, each_has)

    def test_five_who_like_everybody_alike(self):
        worth = [1] * 25
        self.answers(31, worth, [0, 0, 0, 1, 1], 2, [0] * 5, [4] * 5)
        self.answers(15, worth, [0, 0, 0, 1, 1], 2, [0, 0, 0, 0, 1], [3, 3, 3, 3, 0])
        self.answers(11, worth, [0, 0, 0, 1, 1], 1, [0, 0, 1, 0, 2], [2, 2, 0, 2, 0])
        self.answers(9, worth, [0, 0, 0, 1, 1], 0, [0, 1, 1, 0, 2], [1, 1, 1, 1, 0])

    def test_those_who_are_left_may_have_less_than_nothing(self):
        worth = [0, 1, 1,
                 9, 0, -5,
                 9, -5, 0]
        self.answers(1, worth, [0, 0, 0], 0, [0, 1, 1], [0, -5, -5])
        self.answers(7, [-20] * 9, [0, 1, 2], 0, [0, 0, 0], [-40] * 3)

    def test_the_ends_of_what_one_may_be_worth(self):
        self.answers(31, [20] * 25, [0, 1, 2, 3, 4], 2, [0] * 5, [80] * 5)
        self.answers(31, [-20] * 25, [0, 1, 2, 3, 4], 0, [0] * 5, [-80] * 5)
        self.answers(16, [-20] * 25, [0] * 5, 2, [0, 0, 0, 0, 1], [-60, -60, -60, -60, 0])

    def test_as_much_is_made_of_several(self):
        # 0 has 2 + 3 with 1 and 2, and just as much with 3 alone.
        worth = [0, 2, 3, 5,
                 1, 0, 1, 0,
                 1, 1, 0, 0,
                 1, 0, 0, 0]
        self.answers(9, worth, [0, 0, 0, 1], 1, [0, 1, 1, 0], [5, 1, 1, 1])


class Numbers(LeaveCase):
    def test_the_set_takes_person_0_out_of_a_group(self):
        self.left(1, [0, 0], [0, 1])
        self.left(1, [0, 0, 0, 1], [0, 1, 1, 2])
        self.left(1, [0, 1, 0, 1], [0, 1, 2, 1])
        self.left(5, [0, 0, 0, 0, 0], [0, 1, 0, 1, 1])
        self.left(9, [0, 0, 0, 1], [0, 1, 1, 0])
        self.left(17, [0, 1, 0, 1, 0], [0, 1, 2, 1, 0])

    def test_the_set_leaves_person_0_behind(self):
        self.left(2, [0, 0, 0], [0, 1, 0])
        self.left(4, [0, 0, 0, 0, 0], [0, 0, 1, 0, 0])
        self.left(30, [0, 0, 0, 0, 0], [0, 1, 1, 1, 1])

    def test_the_set_takes_a_whole_group(self):
        self.left(6, [0, 1, 1, 2], [0, 1, 1, 2])
        self.left(9, [0, 1, 1, 0], [0, 1, 1, 0])
        self.left(7, [0, 1, 1, 2], [0, 0, 0, 1])
        self.left(3, [0, 1, 2, 2], [0, 0, 1, 1])
        self.left(14, [0, 1, 1, 0, 2], [0, 1, 1, 1, 2])

    def test_the_set_takes_some_out_of_several_groups(self):
        self.left(6, [0, 0, 1, 1, 2], [0, 1, 1, 2, 3])
        self.left(10, [0, 0, 1, 1, 2], [0, 1, 2, 1, 3])
        self.left(21, [0, 0, 1, 1, 2], [0, 1, 0, 2, 0])
        self.left(5, [0, 0, 1, 1], [0, 1, 0, 2])

    def test_the_set_is_everybody(self):
        for n in range(1, 6):
            for groups in itertools.product(range(n), repeat=n):
                self.left(2 ** n - 1, list(groups), [0] * n)

    def test_others_stay_as_they_were(self):
        self.left(16, [0, 1, 0, 1, 2], [0, 1, 0, 1, 2])
        self.left(16, [0, 1, 0, 1, 1], [0, 1, 0, 1, 2])
        self.left(1, [0, 0, 1, 1, 0], [0, 1, 2, 2, 1])
        for person in range(5):
            self.left(1 << person, [0, 1, 2, 3, 4], [0, 1, 2, 3, 4])

    def test_groups_with_other_numbers(self):
        self.left(2, [4, 4, 2, 2, 4], [0, 1, 2, 2, 0])
        self.left(1, [1, 1, 0], [0, 1, 2])
        self.left(4, [1, 0, 1], [0, 1, 2])
        self.left(2, [2, 2, 0], [0, 1, 2])
        self.left(1, [4, 3, 2, 1, 0], [0, 1, 2, 3, 4])
        self.left(24, [4, 3, 2, 1, 0], [0, 1, 2, 3, 3])
        self.left(1, [1, 0], [0, 1])

    def test_every_way_under_every_numbering(self):
        for n in (2, 3, 4, 5):
            worth = [(7 * k * k + 3 * k) % 11 - 5 for k in range(n * n)]
            for way in all_ways(n):
                for s in (1, 2, 3, 2 ** n - 2, 2 ** n - 1):
                    expected = leave(n, s, worth, way)
                    for numbers in itertools.permutations(range(n)):
                        self.assertEqual(leave(n, s, worth, [numbers[group] for group in way]), expected)


class Edges(LeaveCase):
    def test_one_person(self):
        for value in range(-20, 21):
            self.answers(1, [value], [0], 0, [0], [0])

    def test_a_set_that_is_a_group_already(self):
        self.answers(3, FOUR, [0, 0, 1, 1], 0, [0, 0, 1, 1], [1, 8, -8, 7])
        self.answers(12, FOUR, [3, 3, 1, 1], 0, [0, 0, 1, 1], [1, 8, -8, 7])
        self.answers(15, FOUR, [2, 2, 2, 2], 0, [0, 0, 0, 0], [7, 23, -14, 15])
        for n in range(1, 6):
            worth = [(5 * k * k + k) % 9 - 4 for k in range(n * n)]
            for way in all_ways(n):
                has = [sum(worth[i * n + j] for j in range(n) if j != i and way[j] == way[i]) for i in range(n)]
                for group in range(max(way) + 1):
                    self.answers(sum(2 ** i for i in range(n) if way[i] == group), worth, way, 0, way, has)

    def test_two_leave_and_one_has_as_much(self):
        self.answers(3, [0, 3, 0, 0], [0, 1], 1, [0, 0], [3, 0])
        self.answers(3, [0, 0, 3, 0], [0, 1], 1, [0, 0], [0, 3])
        self.answers(3, [0, 5, 0, 2, 0, 2, -1, 1, 0], [0, 1, 1], 1, [0, 0, 1], [5, 2, 0])

    def test_two_leave_and_one_has_less(self):
        self.answers(3, [0, 3, -1, 0], [0, 1], 0, [0, 0], [3, -1])
        self.answers(3, [0, -1, 3, 0], [0, 1], 0, [0, 0], [-1, 3])

    def test_two_who_both_have_as_much(self):
        self.answers(3, [0, 0, 0, 0], [0, 1], 0, [0, 0], [0, 0])
        self.answers(3, [0, 2, 0, 2, 0, 0, 0, 0, 0], [0, 0, 0], 0, [0, 0, 1], [2, 2, 0])

    def test_ring_of_three_who_like_both(self):
        # Round and round: who is with the one before would rather have the next one, who is alone.
        worth = ring(3, 2, 1, 0)
        self.answers(6, worth, [0, 0, 1], 2, [0, 1, 1], [0, 2, 1])
        self.answers(5, worth, [0, 1, 1], 2, [0, 1, 0], [1, 0, 2])
        self.answers(3, worth, [0, 1, 0], 2, [0, 0, 1], [2, 1, 0])
        self.answers(5, worth, [0, 0, 1], 0, [0, 1, 0], [1, 0, 2])
        for groups in ([0, 0, 1], [0, 1, 0], [0, 1, 1], [0, 1, 2]):
            self.answers(7, worth, groups, 2, [0, 0, 0], [3, 3, 3])

    def test_ring_of_three_who_like_only_the_next(self):
        worth = ring(3, 1, 0, 0)
        self.answers(6, worth, [0, 0, 1], 1, [0, 1, 1], [0, 1, 0])
        self.answers(5, worth, [0, 0, 1], 0, [0, 1, 0], [0, 0, 1])
        self.answers(7, worth, [0, 0, 1], 1, [0, 0, 0], [1, 1, 1])
        self.answers(7, worth, [0, 1, 2], 2, [0, 0, 0], [1, 1, 1])

    def test_ring_of_three_who_dislike_the_other(self):
        worth = ring(3, 1, -2, 0)
        self.answers(1, worth, [0, 0, 0], 2, [0, 1, 1], [0, 1, -2])
        self.answers(2, worth, [0, 0, 0], 2, [0, 1, 0], [-2, 0, 1])
        self.answers(4, worth, [0, 0, 0], 2, [0, 0, 1], [1, -2, 0])
        self.answers(3, worth, [0, 0, 0], 0, [0, 0, 1], [1, -2, 0])

    def test_worths_all_0(self):
        for n in range(1, 6):
            for way in all_ways(n):
                for s in range(1, 2 ** n):
                    answer = leave(n, s, [0] * (n * n), way)
                    self.assertEqual((answer[0], answer[n + 1:]), (0, [0] * n))

    def test_groups_that_nobody_would_leave(self):
        worth = [0, 5, -1, -1,
                 5, 0, -1, -1,
                 -1, -1, 0, 5,
                 -1, -1, 5, 0]
        self.assertEqual([leave(4, s, worth, [0, 0, 1, 1])[0] for s in range(1, 16)], [0] * 15)
        self.answers(6, worth, [0, 0, 1, 1], 0, [0, 1, 1, 2], [0, -1, -1, 0])
        for n in range(1, 6):
            for s in range(1, 2 ** n):
                self.assertEqual(leave(n, s, [1] * (n * n), [0] * n)[0], 0)
                self.assertEqual(leave(n, s, [-1] * (n * n), list(range(n)))[0], 0)

    def test_nobody_would_leave_what_holds(self):
        for n in range(2, 6):
            worth = ring(n, 1, 0, 0)
            for w in (0, 1):
                groups = nth(n, w, 0, worth)[1:n + 1]
                for s in range(1, 2 ** n):
                    self.assertLessEqual(leave(n, s, worth, groups)[0], 1 - w)


class Oneself(LeaveCase):
    def test_what_one_is_worth_to_oneself_means_nothing(self):
        for n in range(1, 6):
            worth = [0 if k % (n + 1) == 0 else (5 * k * k + k) % 9 - 4 for k in range(n * n)]
            for way in ([0] * n, list(range(n)), [k // 2 for k in range(n)]):
                for s in range(1, 2 ** n):
                    expected = leave(n, s, worth, way)
                    for own in (-20, -1, 1, 20):
                        for person in range(n):
                            other = list(worth)
                            other[person * n + person] = own
                            self.assertEqual(leave(n, s, other, way), expected)
                        everybody = [own if k % (n + 1) == 0 else worth[k] for k in range(n * n)]
                        self.assertEqual(leave(n, s, everybody, way), expected)

    def test_it_is_not_among_what_one_has(self):
        self.answers(3, [20, 3, 4, -20], [0, 1], 2, [0, 0], [3, 4])
        self.answers(1, [20, 3, 4, -20], [0, 0], 0, [0, 1], [0, 0])

    def test_beyond_the_range_it_is_refused(self):
        for n in range(1, 6):
            for person in range(n):
                for own in (-21, 21, -2147483648, 2147483647):
                    worth = [0] * (n * n)
                    worth[person * n + person] = own
                    for s in range(1, 2 ** n):
                        self.assertEqual(leave(n, s, worth, [0] * n), [-22])


if __name__ == "__main__":
    unittest.main()
