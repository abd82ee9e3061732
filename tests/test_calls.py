"""Every call: what is handed in stays as it was, nothing is kept, nothing is printed or imported."""

import contextlib
import inspect
import io
import os
import subprocess
import sys
import unittest

from groupscore.leaving import core, firm, leave, leavers, nth, perfect

ROOT = os.path.dirname(os.path.dirname(os.path.abspath(__file__)))

PARAMETERS = (
    (leavers, ("n", "w", "worth", "groups")),
    (core, ("n", "w", "worth")),
    (nth, ("n", "w", "k", "worth")),
    (leave, ("n", "s", "worth", "groups")),
    (firm, ("n", "worth")),
    (perfect, ("n", "worth")),
)

# Lists are written as tuples here, so that each call is handed lists of its own.
CALLS = (
    (leavers, (3, 0, (0, 2, 1, 1, 0, 2, 2, 1, 0), (2, 2, 0)), [2, 6, 7]),
    (leavers, (3, 1, (0, 1, 0, 0, 0, 1, 1, 0, 0), (0, 0, 1)), [2, 6, 7]),
    (leavers, (3, 0, (0, 1, 0, 0, 0, 1, 1, 0, 0), (0, 0, 1)), [0]),
    (leavers, (1, 1, (20,), (0,)), [0]),
    (leavers, (2, 0, (0, -1, -2, 0), (1, 1)), [2, 1, 2]),
    (leavers, (2, 2, (0, -1, -2, 0), (1, 1)), [-22]),
    (leavers, (0, 0, (), ()), [-22]),
    (leavers, (5, 0, (21,) * 25, (0,) * 5), [-22]),
    (leavers, (5, 0, (-20,) * 25, (4,) * 5), [30] + list(range(1, 31))),
    (core, (3, 0, (0, 1, 0, 0, 0, 1, 1, 0, 0)), [4]),
    (core, (3, 1, (0, 1, 0, 0, 0, 1, 1, 0, 0)), [1]),
    (core, (1, 0, (-20,)), [1]),
    (core, (2, 0, (20, 3, 0, -20)), [2]),
    (core, (3, 1, (0, 1, -5, 1, 0, 1, -5, 1, 0)), [0]),
    (core, (5, 0, (0,) * 25), [52]),
    (core, (2, 2, (0, 3, 0, 0)), [-22]),
    (core, (0, 0, ()), [-22]),
    (core, (5, 1, (-21,) * 25), [-22]),
    (nth, (3, 0, 1, (0, 1, 0, 0, 0, 1, 1, 0, 0)), [2, 0, 0, 1, 1, 0, 0]),
    (nth, (3, 0, 4, (0, 1, 0, 0, 0, 1, 1, 0, 0)), [-33]),
    (nth, (3, 1, 0, (0, 1, 0, 0, 0, 1, 1, 0, 0)), [1, 0, 0, 0, 1, 1, 1]),
    (nth, (3, 1, 0, (0, 1, -5, 1, 0, 1, -5, 1, 0)), [-33]),
    (nth, (1, 0, 0, (-20,)), [1, 0, 0]),
    (nth, (5, 0, 51, (0,) * 25), [5, 0, 1, 2, 3, 4, 0, 0, 0, 0, 0]),
    (nth, (5, 0, 4294967295, (0,) * 25), [-33]),
    (nth, (2, 2, 0, (0, 3, 0, 0)), [-22]),
    (nth, (0, 0, 0, ()), [-22]),
    (leave, (3, 6, (0, 2, 1, 1, 0, 2, 2, 1, 0), (2, 2, 0)), [2, 0, 1, 1, 0, 2, 1]),
    (leave, (3, 6, (0, 1, 0, 0, 0, 1, 1, 0, 0), (1, 1, 2)), [1, 0, 1, 1, 0, 1, 0]),
    (leave, (2, 3, (0, -1, -2, 0), (1, 0)), [0, 0, 0, -1, -2]),
    (leave, (1, 1, (20,), (0,)), [0, 0, 0]),
    (leave, (5, 21, (1,) * 25, (4, 4, 3, 3, 2)), [2, 0, 1, 0, 2, 0, 2, 0, 2, 0, 2]),
    (leave, (2, 0, (0, 3, 4, 0), (0, 1)), [-22]),
    (leave, (2, 4, (0, 3, 4, 0), (0, 1)), [-22]),
    (leave, (2, 3, (0, 3, 4, 0), (0, 2)), [-22]),
    (leave, (0, 1, (), ()), [-22]),
    (firm, (3, (0, 2, -1, -1, 0, 2, 2, -1, 0)), [4, 1, 2, 4, 7]),
    (firm, (3, (0, 5, -1, 5, 0, -1, 3, 3, 0)), [4, 1, 2, 3, 4]),
    (firm, (1, (-20,)), [1, 1]),
    (firm, (5, (0,) * 25), [31] + list(range(1, 32))),
    (firm, (5, (-20,) * 25), [5, 1, 2, 4, 8, 16]),
    (firm, (2, (0, 21, 0, 0)), [-22]),
    (firm, (0, ()), [-22]),
    (perfect, (3, (0, 2, 1, 1, 0, 2, 2, 1, 0)), [1, 0, 0, 0]),
    (perfect, (3, (0, -1, 0, 0, 0, 2, 0, 0, 0)), [2, 0, 1, 1]),
    (perfect, (3, (0, 1, -5, 1, 0, 1, -5, 1, 0)), [-33]),
    (perfect, (1, (20,)), [1, 0]),
    (perfect, (5, (0,) * 25), [1, 0, 0, 0, 0, 0]),
    (perfect, (5, (-20,) * 25), [5, 0, 1, 2, 3, 4]),
    (perfect, (2, (0, 1, -21, 0)), [-22]),
    (perfect, (0, ()), [-22]),
)


def handed(arguments, kind):
    """The arguments, with a new list of that kind for each tuple."""
    return [kind(argument) if isinstance(argument, tuple) else argument for argument in arguments]


def refuse_change(self, *args, **kwargs):
    raise AssertionError("what is handed in was changed")


class Watched(list):
    """A list that can't be changed, not for a while either."""


for name in ("append", "clear", "extend", "insert", "pop", "remove", "reverse", "sort",
             "__setitem__", "__delitem__", "__iadd__", "__imul__"):
    setattr(Watched, name, refuse_change)


class Calls(unittest.TestCase):
    def test_lists_are_as_they_were(self):
        for call, arguments, expected in CALLS:
            lists = handed(arguments, list)
            self.assertEqual(call(*lists), expected)
            self.assertEqual(lists, handed(arguments, list))

    def test_lists_are_not_changed_for_a_while_either(self):
        for call, arguments, expected in CALLS:
            self.assertEqual(call(*handed(arguments, Watched)), expected)

    def test_again_the_same(self):
        for call, arguments, expected in CALLS:
            lists = handed(arguments, list)
            self.assertEqual(call(*lists), expected)
            self.assertEqual(call(*lists), expected)

    def test_nothing_is_kept_between_calls(self):
        for call_before, arguments_before, answer_before in CALLS:
            for call, arguments, expected in CALLS:
                call_before(*handed(arguments_before, list))
                self.assertEqual(call(*handed(arguments, list)), expected)

    def test_the_same_list_with_other_numbers(self):
        worth, groups = [0, 3, 4, 0], [0, 1]
        self.assertEqual(leavers(2, 0, worth, groups), [1, 3])
        self.assertEqual(leave(2, 3, worth, groups), [2, 0, 0, 3, 4])
        self.assertEqual(core(2, 0, worth), [1])
        self.assertEqual(nth(2, 0, 0, worth), [1, 0, 0, 3, 4])
        self.assertEqual(firm(2, worth), [3, 1, 2, 3])
        self.assertEqual(perfect(2, worth), [1, 0, 0])
        groups[1] = 0
        self.assertEqual(leavers(2, 0, worth, groups), [0])
        self.assertEqual(leave(2, 3, worth, groups), [0, 0, 0, 3, 4])
        worth[1] = -3
        self.assertEqual(leavers(2, 0, worth, groups), [1, 1])
        self.assertEqual(leave(2, 3, worth, groups), [0, 0, 0, -3, 4])
        self.assertEqual(nth(2, 0, 0, worth), [2, 0, 1, 0, 0])
        self.assertEqual(firm(2, worth), [2, 1, 2])
        self.assertEqual(perfect(2, worth), [-33])
        worth[2] = 0
        self.assertEqual(perfect(2, worth), [2, 0, 1])
        worth[1] = 0
        self.assertEqual(core(2, 0, worth), [2])
        worth[0] = 21
        self.assertEqual(core(2, 0, worth), [-22])
        self.assertEqual(nth(2, 0, 0, worth), [-22])
        self.assertEqual(leave(2, 3, worth, groups), [-22])
        self.assertEqual(firm(2, worth), [-22])
        self.assertEqual(perfect(2, worth), [-22])

    def test_an_answer_that_is_changed_changes_no_other(self):
        for call, arguments, expected in CALLS:
            call(*handed(arguments, list)).append(99)
            self.assertEqual(call(*handed(arguments, list)), expected)

    def test_nothing_is_printed(self):
        out, err = io.StringIO(), io.StringIO()
        with contextlib.redirect_stdout(out), contextlib.redirect_stderr(err):
            for call, arguments, expected in CALLS:
                call(*handed(arguments, list))
        self.assertEqual((out.getvalue(), err.getvalue()), ("", ""))

    def test_nothing_else_is_imported(self):
        script = ("import sys; before = set(sys.modules); import groupscore.leaving; "
                  "groupscore.leaving.leavers(2, 0, [0, 3, 4, 0], [0, 1]); "
                  "groupscore.leaving.core(2, 0, [0, 3, 4, 0]); "
                  "groupscore.leaving.nth(2, 0, 0, [0, 3, 4, 0]); "
                  "groupscore.leaving.leave(2, 3, [0, 3, 4, 0], [0, 1]); "
                  "groupscore.leaving.firm(2, [0, 3, 4, 0]); "
                  "groupscore.leaving.perfect(2, [0, 3, 4, 0]); "
                  "print(sorted(set(sys.modules) - before))")
        run = subprocess.run([sys.executable, "-c", script], cwd=ROOT, capture_output=True, text=True, check=True)
        self.assertEqual(run.stdout, "['groupscore', 'groupscore.leaving']\n")


class Interface(unittest.TestCase):
    def test_names_of_the_arguments(self):
        for call, names in PARAMETERS:
            parameters = inspect.signature(call).parameters.values()
            self.assertEqual(tuple(parameter.name for parameter in parameters), names)
            for parameter in parameters:
                self.assertIs(parameter.kind, inspect.Parameter.POSITIONAL_OR_KEYWORD)
                self.assertIs(parameter.default, inspect.Parameter.empty)

    def test_each_call_is_one_def_by_itself(self):
        for call, names in PARAMETERS:
            self.assertTrue(inspect.isfunction(call))
            self.assertEqual(call.__module__, "groupscore.leaving")
        self.assertEqual([call.__name__ for call, names in PARAMETERS],
                         ["leavers", "core", "nth", "leave", "firm", "perfect"])

    def test_arguments_by_name(self):
        self.assertEqual(leavers(n=2, w=0, worth=[0, 3, 4, 0], groups=[0, 1]), [1, 3])
        self.assertEqual(core(n=2, w=0, worth=[0, 3, 0, 0]), [2])
        self.assertEqual(nth(n=2, w=0, k=1, worth=[0, 3, 0, 0]), [2, 0, 1, 0, 0])
        self.assertEqual(leave(n=2, s=3, worth=[0, 3, 0, 0], groups=[1, 0]), [1, 0, 0, 3, 0])
        self.assertEqual(firm(n=2, worth=[0, 3, -1, 0]), [2, 1, 2])
        self.assertEqual(perfect(n=2, worth=[0, 3, 0, 0]), [1, 0, 0])


if __name__ == "__main__":
    unittest.main()
