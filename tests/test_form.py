"""The form of the package's files: what of it can be seen at a glance."""

import ast
import builtins
import os
import unittest

ROOT = os.path.dirname(os.path.dirname(os.path.abspath(__file__)))
PACKAGE = os.path.join(ROOT, "groupscore")

OWN_NAMES = set("""len range enumerate zip min max sum abs sorted reversed int str bool list tuple dict set frozenset
isinstance ord repr any all divmod Exception ValueError TypeError KeyError IndexError LookupError ZeroDivisionError
ArithmeticError OverflowError RuntimeError NotImplementedError AttributeError StopIteration""".split())
METHODS = set("""append clear copy count endswith extend find get index insert isalnum isalpha isdigit islower isspace
isupper items join keys ljust lower lstrip partition pop remove replace reverse rfind rjust rpartition rsplit rstrip
setdefault split splitlines startswith strip update upper values zfill bit_length""".split())
OUT = (ast.With, ast.Match, ast.Delete, ast.Global, ast.Nonlocal, ast.Assert, ast.Yield, ast.YieldFrom, ast.Await,
       ast.AsyncFunctionDef, ast.AsyncFor, ast.AsyncWith, ast.SetComp, ast.DictComp, ast.GeneratorExp, ast.NamedExpr,
       ast.Starred, ast.Div, ast.AnnAssign, ast.Import, ast.ImportFrom)


def files():
    found = {}
    for name in sorted(os.listdir(PACKAGE)):
        if name != "__pycache__":
            with open(os.path.join(PACKAGE, name), encoding="utf-8") as file:
                found[name] = file.read()
    return found


class Form(unittest.TestCase):
    def test_files(self):
        self.assertEqual(list(files()), ["__init__.py", "leaving.py"])

    def test_signs_and_sizes(self):
        for name, text in files().items():
            self.assertTrue(all(sign == "\n" or " " <= sign <= "~" for sign in text), name)
            lines = text.split("\n")
            self.assertLessEqual(len(lines), 400, name)
            self.assertLessEqual(max(len(line) for line in lines), 120, name)
            for node in ast.walk(ast.parse(text)):
                if isinstance(node, ast.FunctionDef):
                    self.assertLessEqual(node.end_lineno - node.lineno + 1, 40, node.name)
                    self.assertEqual(node.decorator_list, [], node.name)

    def test_what_is_left_out(self):
        for name, text in files().items():
            for node in ast.walk(ast.parse(text)):
                where = (name, getattr(node, "lineno", None))
                self.assertNotIsInstance(node, OUT, where)
                if isinstance(node, (ast.For, ast.While)):
                    self.assertEqual(node.orelse, [], where)
                if isinstance(node, ast.Constant):
                    self.assertNotIsInstance(node.value, (float, bytes, complex), where)
                if isinstance(node, ast.Attribute):
                    self.assertIn(node.attr, METHODS, where)

    def test_names(self):
        for name, text in files().items():
            for node in ast.walk(ast.parse(text)):
                word = getattr(node, "id", getattr(node, "arg", None))
                if isinstance(node, (ast.Name, ast.arg)):
                    where = (name, node.lineno, word)
                    self.assertFalse(word.startswith("_"), where)
                    if isinstance(node, ast.arg) or isinstance(node.ctx, ast.Store):
                        self.assertFalse(hasattr(builtins, word), where)
                    elif hasattr(builtins, word):
                        self.assertIn(word, OWN_NAMES, where)


if __name__ == "__main__":
    unittest.main()
