"""nth: answers worked out by hand, and the edges that the document names."""

import unittest

from groupscore.leaving import core, nth

TOP = 4294967295
WAYS = {1: 1, 2: 2, 3: 5, 4: 15, 5: 52}


def ring(n, following, before, others):
    """A ring of n: what the next one, the one before, and all others are worth to each."""
    worth = [others] * (n * n)
    for person in range(n):
        worth[person * n + (person - 1) % n] = before
        worth[person * n + (person + 1) % n] = following
        worth[person * n + person] = 0
    return worth


class NthCase(unittest.TestCase):
    def answers(self, n, w, worth, *ways):
        """That these ways hold, in this order, and no others; each is told by its whole answer."""
        for k in range(len(ways)):
            self.assertEqual(nth(n, w, k, worth), ways[k], (n, w, k, worth))
        for k in (len(ways), len(ways) + 1, 53, TOP):
            self.assertEqual(nth(n, w, k, worth), [-33], (n, w, k, worth))
        self.assertEqual(core(n, w, worth), [len(ways)])

    def both(self, n, worth, *ways):
        for w in (0, 1):
            self.answers(n, w, worth, *ways)


class Ordinary(NthCase):
    def test_two_who_like_each_other(self):
        self.both(2, [0, 3, 4, 0], [1, 0, 0, 3, 4])

    def test_two_who_do_not(self):
        self.both(2, [0, -1, -2, 0], [2, 0, 1, 0, 0])

    def test_two_of_whom_one_dislikes_the_other(self):
        self.both(2, [0, 3, -1, 0], [2, 0, 1, 0, 0])
        self.both(2, [0, -1, 3, 0], [2, 0, 1, 0, 0])

    def test_rows_tell_what_others_are_worth_to_one(self):
        worth = [0, 1, 2,
                 3, 0, 5,
                 7, 11, 0]
        self.both(3, worth, [1, 0, 0, 0, 3, 8, 18])

    def test_two_pairs(self):
        worth = [0, 5, -1, -1,
                 6, 0, -1, -1,
                 -1, -1, 0, 7,
                 -1, -1, 8, 0]
        self.both(4, worth, [2, 0, 0, 1, 1, 5, 6, 7, 8])

    def test_pairs_that_lie_across(self):
        # 0 and 3 are together, 1 and 4, and 2 is alone.
        worth = [-1] * 25
        for person, other, value in ((0, 3, 1), (3, 0, 2), (1, 4, 3), (4, 1, 4)):
            worth[person * 5 + other] = value
        self.both(5, worth, [3, 0, 1, 2, 0, 1, 1, 3, 0, 2, 4])

    def test_two_pairs_of_whom_one_has_as_much(self):
        # Each pair may be together or apart, as long as only one of it cares.
        worth = [0, 3, -1, -1,
                 0, 0, -1, -1,
                 -1, -1, 0, 4,
                 -1, -1, 0, 0]
        self.answers(4, 0, worth,
                     [2, 0, 0, 1, 1, 3, 0, 4, 0],
                     [3, 0, 0, 1, 2, 3, 0, 0, 0],
                     [3, 0, 1, 2, 2, 0, 0, 4, 0],
                     [4, 0, 1, 2, 3, 0, 0, 0, 0])
        self.answers(4, 1, worth, [2, 0, 0, 1, 1, 3, 0, 4, 0])

    def test_two_pairs_and_one_to_whom_all_else_is_worth_0(self):
        worth = [0] * 25
        for person, other in ((0, 1), (1, 0), (2, 3), (3, 2)):
            worth[person * 5 + other] = 5
        self.both(5, worth,
                  [1, 0, 0, 0, 0, 0, 5, 5, 5, 5, 0],
                  [2, 0, 0, 0, 0, 1, 5, 5, 5, 5, 0],
                  [2, 0, 0, 1, 1, 0, 5, 5, 5, 5, 0],
                  [2, 0, 0, 1, 1, 1, 5, 5, 5, 5, 0],
                  [3, 0, 0, 1, 1, 2, 5, 5, 5, 5, 0])

    def test_one_who_dislikes_all_and_to_the_others_all_are_worth_0(self):
        self.both(3, [0, -1, -1, 0, 0, 0, 0, 0, 0], [2, 0, 1, 1, 0, 0, 0], [3, 0, 1, 2, 0, 0, 0])

    def test_some_have_less_with_one_and_more_in_all(self):
        # 0 would have more with 2 alone, but 2 would have less.
        worth = [0, -3, 5,
                 4, 0, 1,
                 2, 6, 0]
        self.both(3, worth, [1, 0, 0, 0, 2, 5, 8])

    def test_all_like_all_as_much_as_may_be(self):
        for n in range(1, 6):
            for value in (1, 20):
                self.both(n, [value] * (n * n), [1] + [0] * n + [value * (n - 1)] * n)

    def test_all_dislike_all(self):
        for n in range(1, 6):
            for value in (-1, -20):
                self.both(n, [value] * (n * n), [n] + list(range(n)) + [0] * n)


class Edges(NthCase):
    def test_one_person(self):
        for value in range(-20, 21):
            self.both(1, [value], [1, 0, 0])

    def test_two_leave_and_one_has_as_much(self):
        self.answers(2, 0, [0, 3, 0, 0], [1, 0, 0, 3, 0], [2, 0, 1, 0, 0])
        self.answers(2, 1, [0, 3, 0, 0], [1, 0, 0, 3, 0])
        self.answers(2, 0, [0, 0, 3, 0], [1, 0, 0, 0, 3], [2, 0, 1, 0, 0])
        self.answers(2, 1, [0, 0, 3, 0], [1, 0, 0, 0, 3])

    def test_ring_of_three_who_like_both(self):
        self.both(3, ring(3, 2, 1, 0), [1, 0, 0, 0, 3, 3, 3])

    def test_ring_of_three_who_like_only_the_next(self):
        self.answers(3, 0, ring(3, 1, 0, 0),
                     [1, 0, 0, 0, 1, 1, 1],
                     [2, 0, 0, 1, 1, 0, 0],
                     [2, 0, 1, 0, 0, 0, 1],
                     [2, 0, 1, 1, 0, 1, 0])
        self.answers(3, 1, ring(3, 1, 0, 0), [1, 0, 0, 0, 1, 1, 1])

    def test_ring_of_three_who_dislike_the_other(self):
        self.both(3, ring(3, 2, -1, 0), [1, 0, 0, 0, 1, 1, 1])
        self.both(3, ring(3, 1, -1, 0), [1, 0, 0, 0, 0, 0, 0], [3, 0, 1, 2, 0, 0, 0])
        self.both(3, ring(3, 1, -2, 0), [3, 0, 1, 2, 0, 0, 0])

    def test_worths_all_0_up_to_three(self):
        self.both(1, [0], [1, 0, 0])
        self.both(2, [0] * 4, [1, 0, 0, 0, 0], [2, 0, 1, 0, 0])
        self.both(3, [0] * 9,
                  [1, 0, 0, 0, 0, 0, 0],
                  [2, 0, 0, 1, 0, 0, 0],
                  [2, 0, 1, 0, 0, 0, 0],
                  [2, 0, 1, 1, 0, 0, 0],
                  [3, 0, 1, 2, 0, 0, 0])

    def test_worths_all_0_of_four(self):
        ways = ("0000", "0001", "0010", "0011", "0012", "0100", "0101", "0102", "0110", "0111", "0112",
                "0120", "0121", "0122", "0123")
        self.both(4, [0] * 16, *[[len(set(way))] + [int(sign) for sign in way] + [0] * 4 for way in ways])

    def test_worths_all_0_every_way_in_order(self):
        for n in range(1, 6):
            for w in (0, 1):
                answers = [nth(n, w, k, [0] * (n * n)) for k in range(WAYS[n])]
                ways = [answer[1:n + 1] for answer in answers]
                self.assertTrue(all(ways[k] < ways[k + 1] for k in range(len(ways) - 1)))
                self.assertEqual([answer[0] for answer in answers], [len(set(way)) for way in ways])
                self.assertEqual([answer[n + 1:] for answer in answers], [[0] * n] * WAYS[n])
                for k in (WAYS[n], WAYS[n] + 1, TOP):
                    self.assertEqual(nth(n, w, k, [0] * (n * n)), [-33])

    def test_worths_all_0_of_five_here_and_there(self):
        for k, way in ((0, [0, 0, 0, 0, 0]), (1, [0, 0, 0, 0, 1]), (2, [0, 0, 0, 1, 0]), (14, [0, 0, 1, 2, 3]),
                       (15, [0, 1, 0, 0, 0]), (50, [0, 1, 2, 3, 3]), (51, [0, 1, 2, 3, 4])):
            for w in (0, 1):
                self.assertEqual(nth(5, w, k, [0] * 25), [max(way) + 1] + way + [0] * 5)

    def test_nothing_holds(self):
        # Only neighbours in the ring are ever together; one is left over, and the one before would rather have them.
        self.both(5, ring(5, 2, 1, -20))
        self.both(5, ring(5, 20, 19, -20))

    def test_nothing_of_four_holds(self):
        self.both(4, [0, 8, -7, 2, -1, 0, 2, -3, 2, 7, 0, 8, 1, 0, 2, 0])

    def test_nothing_holds_against_weak_leaving(self):
        # 1 has as much with 0 as with 2, and these won't be together.
        worth = [0, 1, -5, 1, 0, 1, -5, 1, 0]
        self.answers(3, 0, worth, [2, 0, 0, 1, 1, 1, 0], [2, 0, 1, 1, 0, 1, 1])
        self.answers(3, 1, worth)

    def test_a_ring_of_four_holds_as_two_pairs(self):
        self.both(4, ring(4, 2, 1, -20), [2, 0, 0, 1, 1, 2, 1, 2, 1], [2, 0, 1, 1, 0, 1, 2, 1, 2])


class Oneself(NthCase):
    def test_what_one_is_worth_to_oneself_means_nothing(self):
        for n in range(1, 6):
            for worth in ([(5 * k * k + k) % 9 - 3 for k in range(n * n)], ring(n, 2, 1, 0), [1] * (n * n)):
                worth = [0 if k % (n + 1) == 0 else worth[k] for k in range(n * n)]
                for w in (0, 1):
                    expected = [nth(n, w, k, worth) for k in range(core(n, w, worth)[0])]
                    for own in (-20, -1, 1, 20):
                        for person in range(n):
                            other = list(worth)
                            other[person * n + person] = own
                            self.answers(n, w, other, *expected)
                        everybody = [own if k % (n + 1) == 0 else worth[k] for k in range(n * n)]
                        self.answers(n, w, everybody, *expected)

    def test_it_is_not_among_what_one_has(self):
        self.both(2, [20, 3, 4, -20], [1, 0, 0, 3, 4])
        self.both(2, [20, -1, -1, -20], [2, 0, 1, 0, 0])

    def test_beyond_the_range_it_is_refused(self):
        for n in range(1, 6):
            for person in range(n):
                for own in (-21, 21, -2147483648, 2147483647):
                    worth = [0] * (n * n)
                    worth[person * n + person] = own
                    for w in (0, 1):
                        for k in (0, TOP):
                            self.assertEqual(nth(n, w, k, worth), [-22])


if __name__ == "__main__":
    unittest.main()
