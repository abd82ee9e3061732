"""perfect: answers worked out by hand, and the edges that the document names."""

import unittest

from groupscore.leaving import core, perfect, what_those_liked_come_to


def ring(n, following, before, others):
    """A ring of n: what the next one, the one before, and all others are worth to each."""
    worth = [others] * (n * n)
    for person in range(n):
        worth[person * n + (person - 1) % n] = before
        worth[person * n + (person + 1) % n] = following
        worth[person * n + person] = 0
    return worth


def worths(n, others, *told):
    """What the others are worth, but where it is told: person, other, value."""
    worth = [others] * (n * n)
    for person, other, value in told:
        worth[person * n + other] = value
    return worth


class PerfectCase(unittest.TestCase):
    def answers(self, worth, *groups):
        """That the first perfect way is these groups."""
        self.assertEqual(perfect(len(groups), worth), [len(set(groups))] + list(groups), worth)

    def none(self, n, worth):
        self.assertEqual(perfect(n, worth), [-33], worth)


class Ordinary(PerfectCase):
    def test_two_pairs(self):
        worth = [0, 5, -1, -1,
                 6, 0, -1, -1,
                 -1, -1, 0, 7,
                 -1, -1, 8, 0]
        self.answers(worth, 0, 0, 1, 1)

    def test_pairs_that_lie_across(self):
        worth = worths(5, -1, (0, 3, 1), (3, 0, 2), (1, 4, 3), (4, 1, 4))
        self.answers(worth, 0, 1, 2, 0, 1)

    def test_two_groups_of_which_one_has_three(self):
        worth = worths(5, -3, (0, 2, 1), (2, 0, 1), (0, 4, 2), (4, 0, 2), (2, 4, 0), (4, 2, 0), (1, 3, 20), (3, 1, 20))
        self.answers(worth, 0, 1, 0, 1, 0)

    def test_only_the_last_two_are_together(self):
        self.answers(worths(5, -1, (3, 4, 1), (4, 3, 0)), 0, 1, 2, 3, 3)

    def test_others_who_are_worth_0_may_be_with_them(self):
        # Person 2 is with 0, whose group's number is the lesser one, as long as both let it be.
        self.answers(worths(3, 0, (0, 1, -1)), 0, 1, 0)
        self.answers(worths(3, 0, (0, 1, -1), (2, 0, -1)), 0, 1, 1)
        self.answers(worths(3, 0, (0, 1, -1), (2, 0, -1), (1, 2, -1)), 0, 1, 2)

    def test_the_first_of_several(self):
        # The pairs can't be together; person 4 may be with the one, the other, or alone.
        pairs = ((0, 1, 5), (1, 0, 5), (2, 3, 5), (3, 2, 5), (0, 2, -1))
        self.answers(worths(5, 0, *pairs), 0, 0, 1, 1, 0)
        self.answers(worths(5, 0, *pairs, (4, 0, -1)), 0, 0, 1, 1, 1)
        self.answers(worths(5, 0, *pairs, (1, 4, -1)), 0, 0, 1, 1, 1)
        self.answers(worths(5, 0, *pairs, (4, 0, -1), (3, 4, -1)), 0, 0, 1, 1, 2)

    def test_not_the_fewest_groups_but_the_first(self):
        # 0 with 3 and 1 with 2 are perfect too, and only two groups.
        self.answers(worths(4, 0, (0, 2, -1), (1, 3, -1), (2, 3, -1)), 0, 0, 1, 2)

    def test_a_chain_of_likes_is_one_group(self):
        chain = ((0, 1, 1), (1, 2, 1), (2, 3, 1), (3, 4, 1))
        self.answers(worths(5, 0, *chain), 0, 0, 0, 0, 0)
        self.none(5, worths(5, 0, *chain, (4, 0, -1)))
        self.none(5, worths(5, 0, *chain, (0, 4, -1)))

    def test_one_liked_does_not_make_up_for_one_disliked(self):
        # With 3 and 4 both 0 has 5, as with neither; those liked come to 9.
        told = ((0, 1, 2), (0, 2, 3), (0, 3, -4), (0, 4, 4))
        self.answers(worths(5, 0, *told), 0, 0, 0, 1, 0)
        self.none(5, worths(5, 0, *told, (4, 3, 1)))

    def test_one_who_likes_two_who_will_not_be_together(self):
        # 0 with 1 holds, and 0 with 2, but 0 can't have both.
        worth = worths(3, 0, (0, 1, 5), (0, 2, 5), (1, 2, -1), (2, 1, -1))
        self.assertEqual(core(3, 0, worth), [3])
        self.none(3, worth)

    def test_all_like_all(self):
        for n in range(1, 6):
            for value in (1, 20):
                self.answers([value] * (n * n), *[0] * n)

    def test_worths_all_below_0(self):
        for n in range(1, 6):
            for value in (-1, -20):
                self.answers([value] * (n * n), *range(n))

    def test_one_who_likes_one_by_whom_they_are_disliked(self):
        for n in range(2, 6):
            self.none(n, worths(n, 0, (0, n - 1, 1), (n - 1, 0, -1)))


class Edges(PerfectCase):
    def test_one_person(self):
        for value in range(-20, 21):
            self.answers([value], 0)

    def test_two(self):
        for one in (-20, -1, 0, 1, 20):
            for other in (-20, -1, 0, 1, 20):
                if one >= 0 and other >= 0:
                    self.answers([0, one, other, 0], 0, 0)
                elif one <= 0 and other <= 0:
                    self.answers([0, one, other, 0], 0, 1)
                else:
                    self.none(2, [0, one, other, 0])

    def test_ring_of_three_who_like_both(self):
        self.answers(ring(3, 2, 1, 0), 0, 0, 0)

    def test_ring_of_three_who_like_only_the_next(self):
        self.answers(ring(3, 1, 0, 0), 0, 0, 0)

    def test_ring_of_three_who_dislike_the_other(self):
        # Each likes one who dislikes them, even where all three together hold.
        for following, before in ((2, -1), (1, -1), (1, -2), (20, -20)):
            self.none(3, ring(3, following, before, 0))

    def test_worths_all_0(self):
        for n in range(1, 6):
            self.answers([0] * (n * n), *[0] * n)

    def test_nothing_holds(self):
        for n, worth in ((5, ring(5, 2, 1, -20)), (5, ring(5, 20, 19, -20)),
                         (4, [0, 8, -7, 2, -1, 0, 2, -3, 2, 7, 0, 8, 1, 0, 2, 0])):
            self.assertEqual(core(n, 0, worth), [0])
            self.none(n, worth)

    def test_something_holds_and_nothing_is_perfect(self):
        self.assertEqual(core(4, 1, ring(4, 2, 1, -20)), [2])
        self.none(4, ring(4, 2, 1, -20))

    def test_nothing_holds_against_weak_leaving(self):
        worth = [0, 1, -5, 1, 0, 1, -5, 1, 0]
        self.assertEqual((core(3, 0, worth), core(3, 1, worth)), ([2], [0]))
        self.none(3, worth)


class Oneself(PerfectCase):
    def test_what_one_is_worth_to_oneself_means_nothing(self):
        for n in range(1, 6):
            for worth in ([(5 * k * k + k) % 9 - 3 for k in range(n * n)], ring(n, 2, 1, 0), ring(n, 0, 0, -1),
                          [0] * (n * n), [-1] * (n * n), [1] * (n * n)):
                worth = [0 if k % (n + 1) == 0 else worth[k] for k in range(n * n)]
                expected = perfect(n, worth)
                for own in (-20, -1, 1, 20):
                    for person in range(n):
                        other = list(worth)
                        other[person * n + person] = own
                        self.assertEqual(perfect(n, other), expected)
                    everybody = [own if k % (n + 1) == 0 else worth[k] for k in range(n * n)]
                    self.assertEqual(perfect(n, everybody), expected)

    def test_nobody_is_among_those_they_like(self):
        self.answers([20, -1, -1, 20], 0, 1)
        self.answers([20, 3, 4, 20], 0, 0)
        self.answers([-20, 3, 4, -20], 0, 0)
        worth = [20, 2, -3,
                 1, 20, 4,
                 5, 0, 20]
        self.assertEqual([what_those_liked_come_to(3, worth, person) for person in range(3)], [2, 5, 5])

    def test_beyond_the_range_it_is_refused(self):
        for n in range(1, 6):
            for person in range(n):
                for own in (-21, 21, -2147483648, 2147483647):
                    for others in (-1, 0, 1):
                        self.assertEqual(perfect(n, worths(n, others, (person, person, own))), [-22])


if __name__ == "__main__":
    unittest.main()
