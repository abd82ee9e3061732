"""core: answers worked out by hand, and the edges that the document names."""

import unittest

from groupscore.leaving import all_ways, core, groups_hold

WAYS = {1: 1, 2: 2, 3: 5, 4: 15, 5: 52}


def ring(n, following, before, others):
    """A ring of n: what the next one, the one before, and all others are worth to each."""
    worth = [others] * (n * n)
    for person in range(n):
        worth[person * n + (person - 1) % n] = before
        worth[person * n + (person + 1) % n] = following
        worth[person * n + person] = 0
    return worth


class CoreCase(unittest.TestCase):
    def answers(self, n, worth, strict, weak):
        self.assertEqual(core(n, 0, worth), [strict], (n, worth))
        self.assertEqual(core(n, 1, worth), [weak], (n, worth))


class Ordinary(CoreCase):
    def test_two_who_like_each_other(self):
        self.answers(2, [0, 3, 4, 0], 1, 1)

    def test_two_who_do_not(self):
        self.answers(2, [0, -1, -2, 0], 1, 1)

    def test_two_of_whom_one_dislikes_the_other(self):
        self.answers(2, [0, 3, -1, 0], 1, 1)
        self.answers(2, [0, -1, 3, 0], 1, 1)

    def test_two_pairs(self):
        worth = [0, 5, -1, -1,
                 5, 0, -1, -1,
                 -1, -1, 0, 5,
                 -1, -1, 5, 0]
        self.answers(4, worth, 1, 1)

    def test_two_pairs_of_whom_one_has_as_much(self):
        # Each pair may be together or apart, as long as only one of it cares.
        worth = [0, 3, -1, -1,
                 0, 0, -1, -1,
                 -1, -1, 0, 3,
                 -1, -1, 0, 0]
        self.answers(4, worth, 4, 1)

    def test_two_pairs_and_one_to_whom_all_else_is_worth_0(self):
        # The pairs must be together; the pairs and the one by themselves may be in groups in any of 5 ways.
        worth = [0] * 25
        for person, other in ((0, 1), (1, 0), (2, 3), (3, 2)):
            worth[person * 5 + other] = 5
        self.answers(5, worth, 5, 5)

    def test_one_who_likes_all_and_to_the_others_all_are_worth_0(self):
        for n in range(2, 6):
            self.answers(n, [1] * n + [0] * (n * n - n), WAYS[n], 1)

    def test_one_who_dislikes_all_and_to_the_others_all_are_worth_0(self):
        # The one is alone; the others are in any groups.
        for n in range(2, 6):
            self.answers(n, [-1] * n + [0] * (n * n - n), WAYS[n - 1], WAYS[n - 1])

    def test_all_like_all(self):
        for n in range(1, 6):
            for value in (1, 20):
                self.answers(n, [value] * (n * n), 1, 1)

    def test_all_dislike_all(self):
        for n in range(1, 6):
            for value in (-1, -20):
                self.answers(n, [value] * (n * n), 1, 1)


class Edges(CoreCase):
    def test_one_person(self):
        for value in range(-20, 21):
            self.answers(1, [value], 1, 1)

    def test_two_leave_and_one_has_as_much(self):
        self.answers(2, [0, 3, 0, 0], 2, 1)
        self.answers(2, [0, 0, 3, 0], 2, 1)

    def test_ring_of_three_who_like_both(self):
        self.answers(3, ring(3, 2, 1, 0), 1, 1)

    def test_ring_of_three_who_like_only_the_next(self):
        # Two together hold: of any other two one has as much. Against weak leaving only all together hold.
        self.answers(3, ring(3, 1, 0, 0), 4, 1)

    def test_ring_of_three_who_dislike_the_other(self):
        self.answers(3, ring(3, 2, -1, 0), 1, 1)
        self.answers(3, ring(3, 1, -1, 0), 2, 2)
        self.answers(3, ring(3, 1, -2, 0), 1, 1)

    def test_worths_all_0(self):
        for n in range(1, 6):
            self.answers(n, [0] * (n * n), WAYS[n], WAYS[n])

    def test_nothing_holds(self):
        # Only neighbours in the ring are ever together; one is left over, and the one before would rather have them.
        self.answers(5, ring(5, 2, 1, -20), 0, 0)
        self.answers(5, ring(5, 20, 19, -20), 0, 0)

    def test_nothing_of_four_holds(self):
        # Every way of the fifteen is left: [0, 1, 2, 2], say, by 0, 1 and 2, who would have 1, 1 and 9.
        worth = [0, 8, -7, 2,
                 -1, 0, 2, -3,
                 2, 7, 0, 8,
                 1, 0, 2, 0]
        self.answers(4, worth, 0, 0)

    def test_nothing_holds_against_weak_leaving(self):
        # 1 has as much with 0 as with 2, and these won't be together.
        self.answers(3, [0, 1, -5, 1, 0, 1, -5, 1, 0], 2, 0)

    def test_a_ring_of_four_holds_as_two_pairs(self):
        self.answers(4, ring(4, 2, 1, -20), 2, 2)


class Oneself(CoreCase):
    def test_what_one_is_worth_to_oneself_means_nothing(self):
        for n in range(1, 6):
            for worth in ([(5 * k * k + k) % 9 - 4 for k in range(n * n)], ring(n, 2, 1, -20), [0] * (n * n)):
                worth = [0 if k % (n + 1) == 0 else worth[k] for k in range(n * n)]
                strict, weak = core(n, 0, worth)[0], core(n, 1, worth)[0]
                for own in (-20, -1, 1, 20):
                    for person in range(n):
                        other = list(worth)
                        other[person * n + person] = own
                        self.answers(n, other, strict, weak)
                    everybody = [own if k % (n + 1) == 0 else worth[k] for k in range(n * n)]
                    self.answers(n, everybody, strict, weak)

    def test_beyond_the_range_it_is_refused(self):
        for n in range(1, 6):
            for person in range(n):
                for own in (-21, 21, -2147483648, 2147483647):
                    worth = [0] * (n * n)
                    worth[person * n + person] = own
                    self.answers(n, worth, -22, -22)


class Ways(unittest.TestCase):
    def test_all_ways_in_order(self):
        self.assertEqual(all_ways(1), [[0]])
        self.assertEqual(all_ways(2), [[0, 0], [0, 1]])
        self.assertEqual(all_ways(3), [[0, 0, 0], [0, 0, 1], [0, 1, 0], [0, 1, 1], [0, 1, 2]])
        for n in range(1, 6):
            ways = all_ways(n)
            self.assertEqual(len(ways), WAYS[n])
            self.assertTrue(all(ways[k] < ways[k + 1] for k in range(len(ways) - 1)))

    def test_which_hold(self):
        worth = ring(3, 1, 0, 0)
        self.assertEqual([way for way in all_ways(3) if groups_hold(3, 0, worth, way)],
                         [[0, 0, 0], [0, 0, 1], [0, 1, 0], [0, 1, 1]])
        self.assertEqual([way for way in all_ways(3) if groups_hold(3, 1, worth, way)], [[0, 0, 0]])


if __name__ == "__main__":
    unittest.main()
