"""leavers: answers worked out by hand, and the edges that the document names."""

import itertools
import unittest

from groupscore.leaving import leavers, what_one_has


def all_ways(n):
    """All ways to be in groups, numbered as they first come."""
    return [groups for groups in itertools.product(range(n), repeat=n)
            if all(groups[i] <= max(groups[:i], default=-1) + 1 for i in range(n))]


class LeaversCase(unittest.TestCase):
    def answers(self, worth, groups, strict, weak=None):
        """Both answers of leavers; where weak isn't told it is the same as the strict one."""
        n = len(groups)
        self.assertEqual(leavers(n, 0, worth, groups), strict)
        self.assertEqual(leavers(n, 1, worth, groups), strict if weak is None else weak)


class Ordinary(LeaversCase):
    def test_two_who_like_each_other(self):
        worth = [0, 3, 4, 0]
        self.answers(worth, [0, 1], [1, 3])
        self.answers(worth, [0, 0], [0])

    def test_two_who_do_not(self):
        worth = [0, -1, -2, 0]
        self.answers(worth, [0, 0], [2, 1, 2])
        self.answers(worth, [0, 1], [0])

    def test_rows_tell_what_others_are_worth_to_one(self):
        self.answers([0, 3, -1, 0], [0, 0], [1, 2])
        self.answers([0, -1, 3, 0], [0, 0], [1, 1])

    def test_two_pairs_held_together(self):
        worth = [0, 5, -1, -1,
                 5, 0, -1, -1,
                 -1, -1, 0, 5,
                 -1, -1, 5, 0]
        self.answers(worth, [0, 0, 0, 0], [2, 3, 12])
        self.answers(worth, [0, 1, 0, 1], [7, 1, 2, 3, 4, 8, 12, 15])

    def test_five_who_like_everybody_alike(self):
        worth = [1] * 25
        self.answers(worth, [0, 0, 0, 1, 1],
                     [6, 15, 23, 27, 29, 30, 31],
                     [15, 11, 13, 14, 15, 19, 21, 22, 23, 25, 26, 27, 28, 29, 30, 31])
        two_or_more = [people for people in range(32) if bin(people).count("1") > 1]
        self.answers(worth, [0, 1, 2, 3, 4], [26] + two_or_more)

    def test_the_ends_of_what_one_may_be_worth(self):
        self.answers([-20] * 25, [0] * 5, [30] + list(range(1, 31)))
        self.answers([20] * 25, [0] * 5, [0])
        self.answers([0, 20, -20, 0], [0, 0], [1, 2])
        self.answers([0, -20, 20, 0], [0, 0], [1, 1])

    def test_as_much_is_made_of_several(self):
        # 0 has 2 + 3 with 1 and 2, and just as much with 3 alone.
        worth = [0, 2, 3, 5,
                 1, 0, 1, 0,
                 1, 1, 0, 0,
                 1, 0, 0, 0]
        self.answers(worth, [0, 0, 0, 1], [0], [2, 9, 15])


class OtherNumbers(LeaversCase):
    def test_groups_with_other_numbers(self):
        worth = [0, 2, 1, 1, 0, 2, 2, 1, 0]
        for groups in ([0, 0, 1], [0, 0, 2], [1, 1, 0], [1, 1, 2], [2, 2, 0], [2, 2, 1]):
            self.answers(worth, groups, [2, 6, 7])

    def test_every_way_under_every_numbering(self):
        for n in (2, 3, 4, 5):
            worth = [(7 * k * k + 3 * k) % 11 - 5 for k in range(n * n)]
            for way in all_ways(n):
                expected = [leavers(n, w, worth, list(way)) for w in (0, 1)]
                for numbers in itertools.permutations(range(n)):
                    groups = [numbers[group] for group in way]
                    self.assertEqual([leavers(n, w, worth, groups) for w in (0, 1)], expected)


class Edges(LeaversCase):
    def test_one_person(self):
        for value in range(-20, 21):
            self.answers([value], [0], [0])

    def test_a_set_that_is_a_group_already(self):
        # All that 0 and 1 like are each other: as a group already they have nothing more.
        worth = [0, 9, 0, 9, 0, 0, 0, 0, 0]
        self.answers(worth, [0, 0, 1], [0])
        self.answers(worth, [0, 0, 0], [0])
        # Nobody has more alone who is alone already, however they dislike all.
        self.answers([-3] * 9, [0, 1, 2], [0])
        self.answers([-3] * 9, [0, 0, 1], [2, 1, 2])

    def test_two_leave_and_one_has_as_much(self):
        self.answers([0, 3, 0, 0], [0, 1], [0], [1, 3])
        self.answers([0, 0, 3, 0], [0, 1], [0], [1, 3])
        worth = [0, 5, 0,
                 2, 0, 2,
                 -1, 1, 0]
        self.answers(worth, [0, 1, 1], [0], [1, 3])

    def test_two_leave_and_one_has_less(self):
        self.answers([0, 3, -1, 0], [0, 1], [0])

    def test_ring_of_three_who_like_both(self):
        worth = [0, 2, 1, 1, 0, 2, 2, 1, 0]
        self.answers(worth, [0, 0, 1], [2, 6, 7])
        self.answers(worth, [0, 1, 0], [2, 3, 7])
        self.answers(worth, [0, 1, 1], [2, 5, 7])
        self.answers(worth, [0, 1, 2], [4, 3, 5, 6, 7])
        self.answers(worth, [0, 0, 0], [0])

    def test_ring_of_three_who_like_only_the_next(self):
        worth = [0, 1, 0, 0, 0, 1, 1, 0, 0]
        self.answers(worth, [0, 1, 2], [1, 7], [4, 3, 5, 6, 7])
        self.answers(worth, [0, 0, 1], [0], [2, 6, 7])
        self.answers(worth, [0, 0, 0], [0])

    def test_ring_of_three_who_dislike_the_other(self):
        worth = [0, 1, -2, -2, 0, 1, 1, -2, 0]
        self.answers(worth, [0, 0, 0], [3, 1, 2, 4])
        self.answers(worth, [0, 0, 1], [1, 2])
        self.answers(worth, [0, 1, 2], [0])

    def test_worths_all_0(self):
        for n in range(1, 6):
            for way in all_ways(n):
                self.answers([0] * (n * n), list(way), [0])

    def test_groups_that_nobody_would_leave(self):
        worth = [0, 5, -1, -1,
                 5, 0, -1, -1,
                 -1, -1, 0, 5,
                 -1, -1, 5, 0]
        self.answers(worth, [0, 0, 1, 1], [0])
        for n in range(1, 6):
            self.answers([1] * (n * n), [0] * n, [0])
            self.answers([-1] * (n * n), list(range(n)), [0])


class Oneself(LeaversCase):
    def test_what_one_is_worth_to_oneself_means_nothing(self):
        for n in range(1, 6):
            worth = [(5 * k * k + k) % 9 - 4 for k in range(n * n)]
            for way in ([0] * n, list(range(n)), [k // 2 for k in range(n)]):
                for w in (0, 1):
                    expected = leavers(n, w, worth, way)
                    for own in (-20, -1, 0, 1, 20):
                        for person in range(n):
                            other = list(worth)
                            other[person * n + person] = own
                            self.assertEqual(leavers(n, w, other, way), expected)
                        everybody = [own if k % (n + 1) == 0 else worth[k] for k in range(n * n)]
                        self.assertEqual(leavers(n, w, everybody, way), expected)

    def test_what_one_has_leaves_oneself_out(self):
        # In leavers one's own worth would cancel out even if it were counted, so it is looked at here.
        worth = [7, 3, -5, 1, 8, 2, 4, 6, 9]
        self.assertEqual([what_one_has(3, worth, person, 7) for person in range(3)], [-2, 3, 10])
        self.assertEqual([what_one_has(3, worth, person, 1 << person) for person in range(3)], [0, 0, 0])
        self.assertEqual([what_one_has(3, worth, person, 3) for person in range(2)], [3, 1])

    def test_beyond_the_range_it_is_refused(self):
        for n in range(1, 6):
            for person in range(n):
                for own in (-21, 21, -2147483648, 2147483647):
                    worth = [0] * (n * n)
                    worth[person * n + person] = own
                    self.answers(worth, [0] * n, [-22])


if __name__ == "__main__":
    unittest.main()
