"""perfect: wrong inputs, each refused with -22 alone and never with -33."""

import itertools
import unittest

from groupscore.leaving import perfect

TOP = 4294967295
LOW_WORTH = -2147483648
TOP_WORTH = 2147483647


def torn(n):
    """Worths under which nothing is perfect, for two or more: each likes all behind them, and these dislike them."""
    return [1 if i < j else -1 for i in range(n) for j in range(n)]


class Refusals(unittest.TestCase):
    def refused(self, n, worth, number=-22):
        answer = perfect(n, worth)
        self.assertEqual(answer, [number], (n, worth))
        self.assertIs(type(answer), list)
        self.assertIs(type(answer[0]), int)

    def taken(self, n, worth):
        answer = perfect(n, worth)
        self.assertEqual(len(answer), 1 + n, (n, worth))
        self.assertTrue(1 <= answer[0] <= n, (n, worth))

    def test_n(self):
        for length in range(28):
            for n in (0, 6, 7, 25, 27, 65536, TOP - 1, TOP):
                self.refused(n, [0] * length)
                self.refused(n, [(-1) ** k for k in range(length)])

    def test_length_of_worth(self):
        for n in range(1, 6):
            for length in range(28):
                for value in (-1, 0, 1):
                    check = self.taken if length == n * n else self.refused
                    check(n, [value] * length)
                if length != n * n:
                    self.refused(n, (torn(n) * 27)[:length])

    def test_numbers_of_worth(self):
        for n in range(1, 6):
            for place in range(n * n):
                for value in (-21, 21, LOW_WORTH, LOW_WORTH + 1, TOP_WORTH, TOP_WORTH - 1, -22, -33, 400):
                    for worth in ([0] * (n * n), torn(n)):
                        worth[place] = value
                        self.refused(n, worth)
                for value in (-20, 20):
                    worth = [0] * (n * n)
                    worth[place] = value
                    self.taken(n, worth)

    def test_nothing_perfect_is_told_behind(self):
        # Were each number taken as it is, nothing would be perfect.
        for n in range(2, 6):
            self.refused(n, torn(n), -33)
            self.refused(n, [20 * value for value in torn(n)], -33)
            self.refused(n, [21 * value for value in torn(n)])
            self.refused(n, torn(n) + [0])
            self.refused(n, torn(n)[:-1])
            self.refused(n - 1, torn(n))
            self.refused(0, torn(n))
            self.refused(TOP, torn(n))

    def test_several_at_once(self):
        sound = (3, [0] * 9)
        wrong = ((0, 4, 6, TOP),
                 ([], [0] * 8, [0] * 10, [0] * 27, [0] * 8 + [21], [-21] + [0] * 8, [21] * 8, [LOW_WORTH] * 9))
        for which in itertools.product((False, True), repeat=2):
            choices = [wrong[k] if which[k] else (sound[k],) for k in range(2)]
            for n, worth in itertools.product(*choices):
                check = self.refused if True in which else self.taken
                check(n, list(worth))

    def test_far_ends(self):
        for n in (0, 1, 5, TOP):
            for worth in ([], [LOW_WORTH], [TOP_WORTH], [LOW_WORTH] * 27, [TOP_WORTH] * 27,
                          [LOW_WORTH] * 25, [TOP_WORTH] * 25):
                self.refused(n, worth)
        self.refused(5, [LOW_WORTH] + [0] * 24)
        self.refused(5, [0] * 24 + [TOP_WORTH])
        self.refused(TOP, [0] * 25)


if __name__ == "__main__":
    unittest.main()
