"""leavers: wrong inputs, each refused with -22 alone."""

import itertools
import unittest

from groupscore.leaving import leavers

TOP = 4294967295
LOW_WORTH = -2147483648
TOP_WORTH = 2147483647


class Refusals(unittest.TestCase):
    def refused(self, n, w, worth, groups):
        answer = leavers(n, w, worth, groups)
        self.assertEqual(answer, [-22], (n, w, worth, groups))
        self.assertIs(type(answer), list)
        self.assertIs(type(answer[0]), int)

    def taken(self, n, w, worth, groups):
        self.assertGreaterEqual(leavers(n, w, worth, groups)[0], 0, (n, w, worth, groups))

    def test_n(self):
        for w in (0, 1):
            self.refused(0, w, [], [])
            self.refused(0, w, [0], [0])
            for n in (6, 7, 25, 65536, TOP - 1, TOP):
                for length in (0, 1, 25, 26, 27):
                    for people in (0, 1, 5, 6, 7):
                        self.refused(n, w, [0] * length, [0] * people)

    def test_length_of_worth(self):
        for n in range(1, 6):
            for length in range(28):
                for w in (0, 1):
                    check = self.taken if length == n * n else self.refused
                    check(n, w, [1] * length, [0] * n)

    def test_numbers_of_worth(self):
        for n in range(1, 6):
            for place in range(n * n):
                for w in (0, 1):
                    for value in (-21, 21, LOW_WORTH, LOW_WORTH + 1, TOP_WORTH, TOP_WORTH - 1, -22, 400):
                        worth = [0] * (n * n)
                        worth[place] = value
                        self.refused(n, w, worth, list(range(n)))
                    for value in (-20, 20):
                        worth = [0] * (n * n)
                        worth[place] = value
                        self.taken(n, w, worth, list(range(n)))

    def test_length_of_groups(self):
        for n in range(1, 6):
            for length in range(8):
                for w in (0, 1):
                    check = self.taken if length == n else self.refused
                    check(n, w, [1] * (n * n), [0] * length)

    def test_numbers_of_groups(self):
        for n in range(1, 6):
            for person in range(n):
                for w in (0, 1):
                    for number in (n, n + 1, 2 * n + 3, TOP - 1, TOP):
                        groups = [0] * n
                        groups[person] = number
                        self.refused(n, w, [0] * (n * n), groups)
                    groups = [0] * n
                    groups[person] = n - 1
                    self.taken(n, w, [0] * (n * n), groups)

    def test_w(self):
        for n in range(1, 6):
            for w in (2, 3, 22, 256, 65536, TOP - 1, TOP):
                self.refused(n, w, [0] * (n * n), [0] * n)
            for w in (0, 1):
                self.taken(n, w, [0] * (n * n), [0] * n)

    def test_several_at_once(self):
        sound = (3, 0, [0] * 9, [0, 1, 2])
        wrong = ((0, 4, 6, TOP),
                 (2, TOP),
                 ([], [0] * 8, [0] * 27, [0] * 8 + [21], [LOW_WORTH] * 9),
                 ([], [0, 1], [0] * 7, [0, 1, 3], [TOP] * 3))
        for which in itertools.product((False, True), repeat=4):
            choices = [wrong[k] if which[k] else (sound[k],) for k in range(4)]
            for n, w, worth, groups in itertools.product(*choices):
                check = self.refused if True in which else self.taken
                check(n, w, list(worth), list(groups))

    def test_far_ends(self):
        for n, w in itertools.product((0, TOP), repeat=2):
            for worth in ([], [LOW_WORTH] * 27, [TOP_WORTH] * 27):
                for groups in ([], [0] * 7, [TOP] * 7):
                    self.refused(n, w, worth, groups)
        self.refused(5, 0, [TOP_WORTH] * 25, [0] * 5)
        self.refused(5, 0, [LOW_WORTH] * 25, [0] * 5)
        self.refused(5, 0, [0] * 25, [TOP] * 5)


if __name__ == "__main__":
    unittest.main()
