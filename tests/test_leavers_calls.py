"""leavers: what is handed in stays as it was, nothing is kept, nothing is printed or imported."""

import contextlib
import io
import os
import subprocess
import sys
import unittest

from groupscore.leaving import leavers

ROOT = os.path.dirname(os.path.dirname(os.path.abspath(__file__)))

CALLS = (
    (3, 0, (0, 2, 1, 1, 0, 2, 2, 1, 0), (2, 2, 0), [2, 6, 7]),
    (3, 1, (0, 1, 0, 0, 0, 1, 1, 0, 0), (0, 0, 1), [2, 6, 7]),
    (3, 0, (0, 1, 0, 0, 0, 1, 1, 0, 0), (0, 0, 1), [0]),
    (1, 1, (20,), (0,), [0]),
    (2, 0, (0, -1, -2, 0), (1, 1), [2, 1, 2]),
    (2, 2, (0, -1, -2, 0), (1, 1), [-22]),
    (0, 0, (), (), [-22]),
    (5, 0, (21,) * 25, (0,) * 5, [-22]),
    (5, 0, (-20,) * 25, (4,) * 5, [30] + list(range(1, 31))),
)


def refuse_change(self, *args, **kwargs):
    raise AssertionError("what is handed in was changed")


class Watched(list):
    """A list that can't be changed, not for a while either."""


for name in ("append", "clear", "extend", "insert", "pop", "remove", "reverse", "sort",
             "__setitem__", "__delitem__", "__iadd__", "__imul__"):
    setattr(Watched, name, refuse_change)


class Calls(unittest.TestCase):
    def test_lists_are_as_they_were(self):
        for n, w, worth, groups, expected in CALLS:
            handed_worth, handed_groups = list(worth), list(groups)
            self.assertEqual(leavers(n, w, handed_worth, handed_groups), expected)
            self.assertEqual(handed_worth, list(worth))
            self.assertEqual(handed_groups, list(groups))

    def test_lists_are_not_changed_for_a_while_either(self):
        for n, w, worth, groups, expected in CALLS:
            self.assertEqual(leavers(n, w, Watched(worth), Watched(groups)), expected)

    def test_again_the_same(self):
        for n, w, worth, groups, expected in CALLS:
            handed_worth, handed_groups = list(worth), list(groups)
            first = leavers(n, w, handed_worth, handed_groups)
            second = leavers(n, w, handed_worth, handed_groups)
            self.assertEqual(first, expected)
            self.assertEqual(second, expected)

    def test_nothing_is_kept_between_calls(self):
        for before in CALLS:
            for n, w, worth, groups, expected in CALLS:
                leavers(before[0], before[1], list(before[2]), list(before[3]))
                self.assertEqual(leavers(n, w, list(worth), list(groups)), expected)

    def test_the_same_list_with_other_numbers(self):
        worth, groups = [0, 3, 4, 0], [0, 1]
        self.assertEqual(leavers(2, 0, worth, groups), [1, 3])
        groups[1] = 0
        self.assertEqual(leavers(2, 0, worth, groups), [0])
        worth[1] = -3
        self.assertEqual(leavers(2, 0, worth, groups), [1, 1])

    def test_an_answer_that_is_changed_changes_no_other(self):
        for n, w, worth, groups, expected in CALLS:
            leavers(n, w, list(worth), list(groups)).append(99)
            self.assertEqual(leavers(n, w, list(worth), list(groups)), expected)

    def test_nothing_is_printed(self):
        out, err = io.StringIO(), io.StringIO()
        with contextlib.redirect_stdout(out), contextlib.redirect_stderr(err):
            for n, w, worth, groups, expected in CALLS:
                leavers(n, w, list(worth), list(groups))
        self.assertEqual((out.getvalue(), err.getvalue()), ("", ""))

    def test_nothing_else_is_imported(self):
        script = ("import sys; before = set(sys.modules); import groupscore.leaving; "
                  "groupscore.leaving.leavers(2, 0, [0, 3, 4, 0], [0, 1]); "
                  "print(sorted(set(sys.modules) - before))")
        run = subprocess.run([sys.executable, "-c", script], cwd=ROOT, capture_output=True, text=True, check=True)
        self.assertEqual(run.stdout, "['groupscore', 'groupscore.leaving']\n")


class Interface(unittest.TestCase):
    def test_names_of_the_arguments(self):
        self.assertEqual(leavers(n=2, w=0, worth=[0, 3, 4, 0], groups=[0, 1]), [1, 3])
        code = leavers.__code__
        self.assertEqual(code.co_varnames[:code.co_argcount], ("n", "w", "worth", "groups"))
        self.assertIsNone(leavers.__defaults__)


if __name__ == "__main__":
    unittest.main()
