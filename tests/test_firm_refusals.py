"""firm: wrong inputs, each refused with -22 alone."""

import itertools
import unittest

from groupscore.leaving import firm

TOP = 4294967295
LOW_WORTH = -2147483648
TOP_WORTH = 2147483647


class Refusals(unittest.TestCase):
    def refused(self, n, worth):
        answer = firm(n, worth)
        self.assertEqual(answer, [-22], (n, worth))
        self.assertIs(type(answer), list)
        self.assertIs(type(answer[0]), int)

    def taken(self, n, worth):
        answer = firm(n, worth)
        self.assertGreaterEqual(answer[0], n, (n, worth))
        self.assertEqual(len(answer), 1 + answer[0], (n, worth))

    def test_n(self):
        for length in range(28):
            for n in (0, 6, 7, 25, 27, 65536, TOP - 1, TOP):
                self.refused(n, [0] * length)

    def test_length_of_worth(self):
        for n in range(1, 6):
            for length in range(28):
                for value in (-1, 0, 1):
                    check = self.taken if length == n * n else self.refused
                    check(n, [value] * length)

    def test_numbers_of_worth(self):
        for n in range(1, 6):
            for place in range(n * n):
                for value in (-21, 21, LOW_WORTH, LOW_WORTH + 1, TOP_WORTH, TOP_WORTH - 1, -22, 400):
                    worth = [0] * (n * n)
                    worth[place] = value
                    self.refused(n, worth)
                for value in (-20, 20):
                    worth = [0] * (n * n)
                    worth[place] = value
                    self.taken(n, worth)

    def test_several_at_once(self):
        sound = (3, [0] * 9)
        wrong = ((0, 4, 6, TOP),
                 ([], [0] * 8, [0] * 10, [0] * 27, [0] * 8 + [21], [-21] + [0] * 8, [21] * 8, [LOW_WORTH] * 9))
        for which in itertools.product((False, True), repeat=2):
            choices = [wrong[k] if which[k] else (sound[k],) for k in range(2)]
            for n, worth in itertools.product(*choices):
                check = self.refused if True in which else self.taken
                check(n, list(worth))

    def test_far_ends(self):
        for n in (0, 1, 5, TOP):
            for worth in ([], [LOW_WORTH], [TOP_WORTH], [LOW_WORTH] * 27, [TOP_WORTH] * 27,
                          [LOW_WORTH] * 25, [TOP_WORTH] * 25):
                self.refused(n, worth)
        self.refused(5, [LOW_WORTH] + [0] * 24)
        self.refused(5, [0] * 24 + [TOP_WORTH])
        self.refused(TOP, [0] * 25)


if __name__ == "__main__":
    unittest.main()
