"""nth: wrong inputs, each refused with -22 alone, whatever k is; and where -33 is answered."""

import itertools
import unittest

from groupscore.leaving import core, nth

TOP = 4294967295
LOW_WORTH = -2147483648
TOP_WORTH = 2147483647
KS = (0, 1, 52, TOP)


class Refusals(unittest.TestCase):
    def refused(self, n, w, worth, number=-22, ks=KS):
        for k in ks:
            answer = nth(n, w, k, worth)
            self.assertEqual(answer, [number], (n, w, k, worth))
            self.assertIs(type(answer), list)
            self.assertIs(type(answer[0]), int)

    def taken(self, n, w, worth):
        """That the first one is told, and -33 answered far behind it."""
        answer = nth(n, w, 0, worth)
        self.assertEqual(len(answer), 1 + 2 * n, (n, w, worth))
        self.assertGreaterEqual(answer[0], 1, (n, w, worth))
        self.refused(n, w, worth, -33, (52, TOP))

    def test_n(self):
        for w in (0, 1):
            for length in range(28):
                for n in (0, 6, 7, 25, 27, 65536, TOP - 1, TOP):
                    self.refused(n, w, [0] * length)

    def test_length_of_worth(self):
        for n in range(1, 6):
            for length in range(28):
                for w in (0, 1):
                    check = self.taken if length == n * n else self.refused
                    check(n, w, [1] * length)

    def test_numbers_of_worth(self):
        for n in range(1, 6):
            for place in range(n * n):
                for w in (0, 1):
                    for value in (-21, 21, LOW_WORTH, LOW_WORTH + 1, TOP_WORTH, TOP_WORTH - 1, -22, 400):
                        worth = [0] * (n * n)
                        worth[place] = value
                        self.refused(n, w, worth)
                    for value in (-20, 20):
                        worth = [0] * (n * n)
                        worth[place] = value
                        self.taken(n, w, worth)

    def test_w(self):
        for n in range(1, 6):
            for w in (2, 3, 22, 256, 65536, TOP - 1, TOP):
                self.refused(n, w, [0] * (n * n))
            for w in (0, 1):
                self.taken(n, w, [0] * (n * n))

    def test_several_at_once(self):
        sound = (3, 0, [0] * 9)
        wrong = ((0, 4, 6, TOP),
                 (2, TOP),
                 ([], [0] * 8, [0] * 27, [0] * 8 + [21], [-21] + [0] * 8, [LOW_WORTH] * 9))
        for which in itertools.product((False, True), repeat=3):
            choices = [wrong[k] if which[k] else (sound[k],) for k in range(3)]
            for n, w, worth in itertools.product(*choices):
                check = self.refused if True in which else self.taken
                check(n, w, list(worth))

    def test_far_ends(self):
        for n, w in itertools.product((0, 5, TOP), (0, TOP)):
            for worth in ([], [LOW_WORTH] * 27, [TOP_WORTH] * 27, [LOW_WORTH] * 25, [TOP_WORTH] * 25):
                self.refused(n, w, worth)
        self.refused(5, 1, [LOW_WORTH] + [0] * 24)
        self.refused(5, 1, [0] * 24 + [TOP_WORTH])
        self.refused(1, TOP, [0])

    def test_w_is_told_ahead_of_no_more_than_k(self):
        # Nothing holds here, so that -33 is due too with a w that is as told.
        worth = [0, 8, -7, 2, -1, 0, 2, -3, 2, 7, 0, 8, 1, 0, 2, 0]
        for w in (0, 1):
            self.refused(4, w, worth, -33)
        for w in (2, TOP):
            self.refused(4, w, worth)


class NoMoreThanK(unittest.TestCase):
    def test_from_what_core_answers_on(self):
        for n in range(1, 6):
            for worth in ([0] * (n * n), [20] * (n * n), [-20] * (n * n), [(3 * k) % 5 - 1 for k in range(n * n)]):
                for w in (0, 1):
                    count = core(n, w, worth)[0]
                    for k in range(count):
                        self.assertEqual(len(nth(n, w, k, worth)), 1 + 2 * n)
                    for k in (count, count + 1, 2 * count + 1, 53, 65536, 2147483648, TOP - 1, TOP):
                        answer = nth(n, w, k, worth)
                        self.assertEqual(answer, [-33], (n, w, k, worth))
                        self.assertIs(type(answer), list)
                        self.assertIs(type(answer[0]), int)


if __name__ == "__main__":
    unittest.main()
