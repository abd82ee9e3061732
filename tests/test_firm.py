"""firm: answers worked out by hand, and the edges that the document names."""

import unittest

from groupscore.leaving import core, firm, leavers, lesser_sets_within, nth


def ring(n, following, before, others):
    """A ring of n: what the next one, the one before, and all others are worth to each."""
    worth = [others] * (n * n)
    for person in range(n):
        worth[person * n + (person - 1) % n] = before
        worth[person * n + (person + 1) % n] = following
        worth[person * n + person] = 0
    return worth


class FirmCase(unittest.TestCase):
    def answers(self, n, worth, *sets):
        """That these sets are firm, in this order, and no others."""
        self.assertEqual(firm(n, worth), [len(sets)] + list(sets), (n, worth))

    def all_are_firm(self, n, worth):
        self.answers(n, worth, *range(1, 2 ** n))

    def each_alone_is_firm(self, n, worth):
        """That the sets of one person are firm, and no others."""
        self.answers(n, worth, *[2 ** person for person in range(n)])


class Ordinary(FirmCase):
    def test_two_who_like_each_other(self):
        self.answers(2, [0, 3, 4, 0], 1, 2, 3)

    def test_two_who_do_not(self):
        self.answers(2, [0, -1, -2, 0], 1, 2)

    def test_rows_tell_what_others_are_worth_to_one(self):
        # All three have 1, 3 and 3; 0 would have more with just 1, but 1 wouldn't.
        worth = [0, 3, -2,
                 2, 0, 1,
                 2, 1, 0]
        self.answers(3, worth, 1, 2, 3, 4, 6, 7)
        # Told the other way round all three have 4, 4 and -1, and 2 would rather be alone.
        worth = [0, 2, 2,
                 3, 0, 1,
                 -2, 1, 0]
        self.answers(3, worth, 1, 2, 3, 4, 6)

    def test_two_pairs(self):
        worth = [0, 5, -1, -1,
                 5, 0, -1, -1,
                 -1, -1, 0, 5,
                 -1, -1, 5, 0]
        self.answers(4, worth, 1, 2, 3, 4, 8, 12)

    def test_pairs_that_lie_across(self):
        worth = [-1] * 25
        for person, other in ((0, 3), (3, 0), (1, 4), (4, 1)):
            worth[person * 5 + other] = 2
        self.answers(5, worth, 1, 2, 4, 8, 9, 16, 18)

    def test_two_within_three(self):
        # All three have 4, 4 and 6; 0 and 1 have 5 and 5 among themselves.
        worth = [0, 5, -1,
                 5, 0, -1,
                 3, 3, 0]
        self.answers(3, worth, 1, 2, 3, 4)

    def test_two_within_three_of_whom_one_has_as_much(self):
        # 0 would have 5 instead of 4, 1 has 5 with 2 and without.
        worth = [0, 5, -1,
                 5, 0, 0,
                 3, 3, 0]
        self.answers(3, worth, 1, 2, 3, 4, 6, 7)

    def test_only_three_within_four_have_more(self):
        # With 3 each of the others has 1 of all four; two of them have 1 too, all three have 2.
        worth = [0, 1, 1, -1,
                 1, 0, 1, -1,
                 1, 1, 0, -1,
                 5, 5, 5, 0]
        self.answers(4, worth, 1, 2, 3, 4, 5, 6, 7, 8)

    def test_only_four_within_five_have_more(self):
        # Person 4 likes all. The others have 2 by themselves, less what 4 is worth to them; of any three two have 1.
        worth = [0, 1, 0, 1, -1,
                 1, 0, 1, 0, -1,
                 0, 1, 0, 1, -1,
                 1, 0, 1, 0, -1,
                 5, 5, 5, 5, 0]
        self.answers(5, worth, *range(1, 17))
        for person in range(4):
            worth[person * 5 + 4] = 0
        self.all_are_firm(5, worth)

    def test_who_is_outside_does_not_matter(self):
        # 0 and 2 would far rather have each other, but 2 isn't within the set of 0 and 1.
        worth = [0, 1, 20,
                 1, 0, -20,
                 20, -20, 0]
        self.assertEqual(leavers(3, 0, worth, [0, 0, 1]), [1, 5])
        self.answers(3, worth, 1, 2, 3, 4, 5)

    def test_not_all_within_a_firm_set_is_firm(self):
        # 0 dislikes 1 and likes 2 more; all three have 1, 4 and 2.
        worth = [0, -1, 2,
                 2, 0, 2,
                 1, 1, 0]
        self.answers(3, worth, 1, 2, 4, 5, 6, 7)

    def test_all_like_all(self):
        for n in range(1, 6):
            for value in (1, 20):
                self.all_are_firm(n, [value] * (n * n))

    def test_all_dislike_all(self):
        for n in range(1, 6):
            for value in (-1, -20):
                self.each_alone_is_firm(n, [value] * (n * n))

    def test_one_who_dislikes_all(self):
        # Whoever is with person 0, that one would rather be alone.
        for n in range(2, 6):
            worth = [-1] * n + [1] * (n * n - n)
            self.answers(n, worth, 1, *range(2, 2 ** n, 2))


class Edges(FirmCase):
    def test_one_person(self):
        for value in range(-20, 21):
            self.answers(1, [value], 1)

    def test_two_of_whom_one_has_as_much_as_alone_more_or_less(self):
        for one in (-20, -1, 0, 1, 20):
            for other in (-20, -1, 0, 1, 20):
                if one >= 0 and other >= 0:
                    self.answers(2, [0, one, other, 0], 1, 2, 3)
                else:
                    self.answers(2, [0, one, other, 0], 1, 2)

    def test_ring_of_three_who_like_both(self):
        self.all_are_firm(3, ring(3, 2, 1, 0))

    def test_ring_of_three_who_like_only_the_next(self):
        self.all_are_firm(3, ring(3, 1, 0, 0))

    def test_ring_of_three_who_dislike_the_other(self):
        # Of two one would rather be alone; all three have 1, then 0, then -1.
        self.answers(3, ring(3, 2, -1, 0), 1, 2, 4, 7)
        self.answers(3, ring(3, 1, -1, 0), 1, 2, 4, 7)
        self.each_alone_is_firm(3, ring(3, 1, -2, 0))

    def test_worths_all_0(self):
        for n, count in ((1, 1), (2, 3), (3, 7), (4, 15), (5, 31)):
            self.assertEqual(firm(n, [0] * (n * n)), [count] + list(range(1, count + 1)))

    def test_nothing_holds(self):
        # Only neighbours in the ring are ever firm together.
        for worth in (ring(5, 2, 1, -20), ring(5, 20, 19, -20)):
            self.assertEqual(core(5, 0, worth), [0])
            self.answers(5, worth, 1, 2, 3, 4, 6, 8, 12, 16, 17, 24)

    def test_nothing_of_four_holds(self):
        # 0, 1 and 2 have 1, 1 and 9 together: 1 and 2 alone would have 2 and 7, 0 and 1 alone 8 and -1.
        worth = [0, 8, -7, 2,
                 -1, 0, 2, -3,
                 2, 7, 0, 8,
                 1, 0, 2, 0]
        self.assertEqual(core(4, 0, worth), [0])
        self.answers(4, worth, 1, 2, 4, 6, 7, 8, 9, 12)

    def test_groups_that_hold_are_firm(self):
        worth = ring(4, 2, 1, -20)
        self.assertEqual([nth(4, 0, k, worth)[1:5] for k in range(2)], [[0, 0, 1, 1], [0, 1, 1, 0]])
        self.answers(4, worth, 1, 2, 3, 4, 6, 8, 9, 12)


class Oneself(FirmCase):
    def test_what_one_is_worth_to_oneself_means_nothing(self):
        for n in range(1, 6):
            for worth in ([(5 * k * k + k) % 9 - 3 for k in range(n * n)], ring(n, 2, 1, -20), [0] * (n * n)):
                worth = [0 if k % (n + 1) == 0 else worth[k] for k in range(n * n)]
                expected = firm(n, worth)
                for own in (-20, -1, 1, 20):
                    for person in range(n):
                        other = list(worth)
                        other[person * n + person] = own
                        self.assertEqual(firm(n, other), expected)
                    everybody = [own if k % (n + 1) == 0 else worth[k] for k in range(n * n)]
                    self.assertEqual(firm(n, everybody), expected)

    def test_alone_one_has_0_whatever_one_is_worth_to_oneself(self):
        self.answers(2, [20, 1, 1, 20], 1, 2, 3)
        self.answers(2, [-20, -1, -1, -20], 1, 2)

    def test_beyond_the_range_it_is_refused(self):
        for n in range(1, 6):
            for person in range(n):
                for own in (-21, 21, -2147483648, 2147483647):
                    worth = [0] * (n * n)
                    worth[person * n + person] = own
                    self.assertEqual(firm(n, worth), [-22])


class Within(unittest.TestCase):
    def test_lesser_sets(self):
        self.assertEqual(lesser_sets_within(1), [])
        self.assertEqual(lesser_sets_within(16), [])
        self.assertEqual(lesser_sets_within(3), [1, 2])
        self.assertEqual(lesser_sets_within(22), [2, 4, 6, 16, 18, 20])
        self.assertEqual(lesser_sets_within(31), list(range(1, 31)))


if __name__ == "__main__":
    unittest.main()
