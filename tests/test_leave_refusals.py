"""leave: wrong inputs, each refused with -22 alone."""

import itertools
import unittest

from groupscore.leaving import leave

TOP = 4294967295
LOW_WORTH = -2147483648
TOP_WORTH = 2147483647


class Refusals(unittest.TestCase):
    def refused(self, n, s, worth, groups):
        answer = leave(n, s, worth, groups)
        self.assertEqual(answer, [-22], (n, s, worth, groups))
        self.assertIs(type(answer), list)
        self.assertIs(type(answer[0]), int)

    def taken(self, n, s, worth, groups):
        answer = leave(n, s, worth, groups)
        self.assertIn(answer[0], (0, 1, 2), (n, s, worth, groups))
        self.assertEqual(len(answer), 1 + 2 * n, (n, s, worth, groups))

    def test_n(self):
        for s in (0, 1, 3, 31, 63, TOP):
            self.refused(0, s, [], [])
            self.refused(0, s, [0], [0])
            for n in (6, 7, 25, 65536, TOP - 1, TOP):
                for length in (0, 1, 25, 26, 27):
                    for people in (0, 1, 5, 6, 7):
                        self.refused(n, s, [0] * length, [0] * people)

    def test_length_of_worth(self):
        for n in range(1, 6):
            for length in range(28):
                for s in range(1, 2 ** n):
                    check = self.taken if length == n * n else self.refused
                    check(n, s, [1] * length, [0] * n)

    def test_numbers_of_worth(self):
        for n in range(1, 6):
            for place in range(n * n):
                for s in (1, 2 ** n - 1):
                    for value in (-21, 21, LOW_WORTH, LOW_WORTH + 1, TOP_WORTH, TOP_WORTH - 1, -22, 400):
                        worth = [0] * (n * n)
                        worth[place] = value
                        self.refused(n, s, worth, list(range(n)))
                    for value in (-20, 20):
                        worth = [0] * (n * n)
                        worth[place] = value
                        self.taken(n, s, worth, list(range(n)))

    def test_length_of_groups(self):
        for n in range(1, 6):
            for length in range(8):
                for s in range(1, 2 ** n):
                    check = self.taken if length == n else self.refused
                    check(n, s, [1] * (n * n), [0] * length)

    def test_numbers_of_groups(self):
        for n in range(1, 6):
            for person in range(n):
                # Refused of those who leave as of those who stay.
                for s in range(1, 2 ** n):
                    for number in (n, n + 1, 2 * n + 3, TOP - 1, TOP):
                        groups = [0] * n
                        groups[person] = number
                        self.refused(n, s, [0] * (n * n), groups)
                    groups = [0] * n
                    groups[person] = n - 1
                    self.taken(n, s, [0] * (n * n), groups)

    def test_s(self):
        for n in range(1, 6):
            for groups in ([0] * n, list(range(n))):
                for s in (0, 2 ** n, 2 ** n + 1, 2 ** n + 2 ** (n - 1), 2 ** (n + 1) - 1, 64, 65537,
                          2147483648, TOP - 1, TOP):
                    self.refused(n, s, [0] * (n * n), groups)
                for s in range(1, 2 ** n):
                    self.taken(n, s, [0] * (n * n), groups)

    def test_several_at_once(self):
        sound = (3, 5, [0] * 9, [0, 1, 2])
        wrong = ((0, 4, 6, TOP),
                 (0, 8, TOP),
                 ([], [0] * 8, [0] * 27, [0] * 8 + [21], [-21] + [0] * 8, [LOW_WORTH] * 9),
                 ([], [0, 1], [0] * 7, [0, 1, 3], [TOP] * 3))
        for which in itertools.product((False, True), repeat=4):
            choices = [wrong[k] if which[k] else (sound[k],) for k in range(4)]
            for n, s, worth, groups in itertools.product(*choices):
                check = self.refused if True in which else self.taken
                check(n, s, list(worth), list(groups))

    def test_far_ends(self):
        for n, s in itertools.product((0, 5, TOP), (0, 1, TOP)):
            for worth in ([], [LOW_WORTH] * 27, [TOP_WORTH] * 27, [LOW_WORTH] * 25, [TOP_WORTH] * 25):
                for groups in ([], [0] * 7, [TOP] * 7, [0] * 5, [TOP] * 5):
                    self.refused(n, s, worth, groups)
        self.refused(5, 31, [LOW_WORTH] + [0] * 24, [0] * 5)
        self.refused(5, 31, [0] * 24 + [TOP_WORTH], [0] * 5)
        self.refused(5, 31, [0] * 25, [0] * 4 + [TOP])
        self.refused(1, TOP, [0], [0])


if __name__ == "__main__":
    unittest.main()
