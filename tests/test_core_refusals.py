"""core: wrong inputs, each refused with -22 alone."""

import itertools
import unittest

from groupscore.leaving import core

TOP = 4294967295
LOW_WORTH = -2147483648
TOP_WORTH = 2147483647


class Refusals(unittest.TestCase):
    def refused(self, n, w, worth):
        answer = core(n, w, worth)
        self.assertEqual(answer, [-22], (n, w, worth))
        self.assertIs(type(answer), list)
        self.assertIs(type(answer[0]), int)

    def taken(self, n, w, worth):
        answer = core(n, w, worth)
        self.assertEqual(len(answer), 1, (n, w, worth))
        self.assertGreaterEqual(answer[0], 0, (n, w, worth))

    def test_n(self):
        for w in (0, 1):
            for length in range(28):
                for n in (0, 6, 7, 25, 27, 65536, TOP - 1, TOP):
                    self.refused(n, w, [0] * length)

    def test_length_of_worth(self):
        for n in range(1, 6):
            for length in range(28):
                for w in (0, 1):
                    check = self.taken if length == n * n else self.refused
                    check(n, w, [1] * length)

    def test_numbers_of_worth(self):
        for n in range(1, 6):
            for place in range(n * n):
                for w in (0, 1):
                    for value in (-21, 21, LOW_WORTH, LOW_WORTH + 1, TOP_WORTH, TOP_WORTH - 1, -22, 400):
                        worth = [0] * (n * n)
                        worth[place] = value
                        self.refused(n, w, worth)
                    for value in (-20, 20):
                        worth = [0] * (n * n)
                        worth[place] = value
                        self.taken(n, w, worth)

    def test_w(self):
        for n in range(1, 6):
            for w in (2, 3, 22, 256, 65536, TOP - 1, TOP):
                self.refused(n, w, [0] * (n * n))
            for w in (0, 1):
                self.taken(n, w, [0] * (n * n))

    def test_several_at_once(self):
        sound = (3, 0, [0] * 9)
        wrong = ((0, 4, 6, TOP),
                 (2, TOP),
                 ([], [0] * 8, [0] * 27, [0] * 8 + [21], [-21] + [0] * 8, [LOW_WORTH] * 9))
        for which in itertools.product((False, True), repeat=3):
            choices = [wrong[k] if which[k] else (sound[k],) for k in range(3)]
            for n, w, worth in itertools.product(*choices):
                check = self.refused if True in which else self.taken
                check(n, w, list(worth))

    def test_far_ends(self):
        for n, w in itertools.product((0, 5, TOP), (0, TOP)):
            for worth in ([], [LOW_WORTH] * 27, [TOP_WORTH] * 27, [LOW_WORTH] * 25, [TOP_WORTH] * 25):
                self.refused(n, w, worth)
        self.refused(5, 1, [LOW_WORTH] + [0] * 24)
        self.refused(5, 1, [0] * 24 + [TOP_WORTH])
        self.refused(1, TOP, [0])


if __name__ == "__main__":
    unittest.main()
