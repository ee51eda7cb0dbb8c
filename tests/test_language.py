"""The package keeps to the small part of Python it is written in, as far as its files can show it."""

import ast
import builtins
import pathlib
import re
import unittest

PACKAGE = pathlib.Path(__file__).resolve().parent.parent / "coinmoves"

OWN_NAMES = set(
    "len range enumerate zip min max sum abs sorted reversed int str bool list tuple dict set frozenset isinstance "
    "ord repr any all divmod Exception ValueError TypeError KeyError IndexError LookupError ZeroDivisionError "
    "ArithmeticError OverflowError RuntimeError NotImplementedError AttributeError StopIteration".split())
METHODS = set(
    "append clear copy count endswith extend find get index insert isalnum isalpha isdigit islower isspace isupper "
    "items join keys ljust lower lstrip partition pop remove replace reverse rfind rjust rpartition rsplit rstrip "
    "setdefault split splitlines startswith strip update upper values zfill bit_length".split())
NOT_WORDS = set(
    "type typing typing_extensions enum Enum IntEnum StrEnum Flag IntFlag Generic Protocol ABC ABCMeta namedtuple "
    "NamedTuple TypedDict TYPE_CHECKING abstractmethod".split())
NODES = (
    ast.Module, ast.FunctionDef, ast.arguments, ast.arg, ast.Expr, ast.Assign, ast.AugAssign, ast.Return, ast.If,
    ast.While, ast.For, ast.Break, ast.Continue, ast.Pass, ast.Name, ast.Constant, ast.List, ast.Tuple, ast.Dict,
    ast.BinOp, ast.UnaryOp, ast.BoolOp, ast.Compare, ast.IfExp, ast.Call, ast.keyword, ast.Attribute, ast.Subscript,
    ast.Slice, ast.ListComp, ast.comprehension, ast.operator, ast.unaryop, ast.boolop, ast.cmpop, ast.expr_context)
NOT_OPERATORS = (ast.Div, ast.MatMult, ast.Pow, ast.Is, ast.IsNot)


def package_files():
    return sorted(path for path in PACKAGE.rglob("*") if path.is_file() and "__pycache__" not in path.parts)


def trees():
    return [(path, ast.parse(path.read_text(encoding="utf-8"))) for path in package_files()]


def bound_names(node):
    names = [part.id for part in ast.walk(node) if isinstance(part, ast.Name) and isinstance(part.ctx, ast.Store)]
    names += [part.arg for part in ast.walk(node) if isinstance(part, ast.arg)]
    return names + [part.name for part in ast.walk(node) if isinstance(part, ast.FunctionDef)]


def called_names(node):
    return {part.func.id for part in ast.walk(node) if isinstance(part, ast.Call) and isinstance(part.func, ast.Name)}


class Files(unittest.TestCase):
    def test_files_are_plain(self):
        for path in package_files():
            self.assertRegex(path.name, r"^(__init__|[a-z][a-z0-9_]*)\.py$")
            self.assertTrue((path.parent / "__init__.py").is_file(), path)
        self.assertIn(PACKAGE / "places.py", package_files())

    def test_signs_and_sizes(self):
        for path in package_files():
            text = path.read_text(encoding="utf-8")
            rows = text.split("\n")
            self.assertEqual([sign for sign in text if sign != "\n" and not " " <= sign <= "~"], [], path)
            self.assertLessEqual(len(rows), 400, path)
            self.assertLessEqual(max(len(row) for row in rows), 120, path)

    def test_words_that_stand_nowhere(self):
        for path in package_files():
            text = path.read_text(encoding="utf-8")
            self.assertEqual(NOT_WORDS & set(re.findall(r"\w+", text)), set(), path)
            self.assertIsNone(re.search("dataclass|overload|contextmanager", text), path)


class Forms(unittest.TestCase):
    def test_only_plain_forms(self):
        for path, tree in trees():
            for node in ast.walk(tree):
                self.assertIsInstance(node, NODES, path)
                self.assertNotIsInstance(node, NOT_OPERATORS, path)

    def test_details_of_forms(self):
        for path, tree in trees():
            for node in ast.walk(tree):
                if isinstance(node, (ast.For, ast.While)):
                    self.assertEqual(node.orelse, [], path)
                if isinstance(node, ast.Assign):
                    self.assertEqual([len(node.targets), isinstance(node.targets[0], ast.Tuple)], [1, False], path)
                if isinstance(node, ast.ListComp):
                    self.assertEqual(len(node.generators), 1, path)
                    self.assertLessEqual(len(node.generators[0].ifs), 1, path)
                if isinstance(node, ast.Attribute):
                    self.assertIn(node.attr, METHODS, path)
                if isinstance(node, ast.Constant):
                    self.assertIn(type(node.value), (int, str, bool, type(None)), path)

    def test_functions(self):
        for path, tree in trees():
            for node in ast.walk(tree):
                if isinstance(node, ast.FunctionDef):
                    self.assertLessEqual(node.end_lineno - node.lineno + 1, 40, node.name)
                    self.assertEqual(node.decorator_list, [], node.name)
                    self.assertEqual((node.args.vararg, node.args.kwarg, node.args.kwonlyargs), (None, None, []))

    def test_names(self):
        for path, tree in trees():
            known = OWN_NAMES | set(bound_names(tree))
            for name in bound_names(tree):
                self.assertRegex(name, "^[A-Za-z][A-Za-z0-9_]*$", path)
                self.assertNotIn(name, dir(builtins), path)
            for node in ast.walk(tree):
                if isinstance(node, ast.Name):
                    self.assertIn(node.id, known, path)

    def test_each_top_name_once_with_a_plain_value(self):
        for path, tree in trees():
            tops = []
            for node in tree.body:
                if isinstance(node, ast.Assign):
                    tops.append(node.targets[0].id)
                    self.assertIsInstance(ast.literal_eval(node.value), (int, str, tuple), path)
                elif isinstance(node, ast.FunctionDef):
                    tops.append(node.name)
                else:
                    self.assertIsInstance(node.value, ast.Constant, path)
            self.assertEqual(len(tops), len(set(tops)), path)

    def test_no_function_comes_back_to_itself(self):
        for path, tree in trees():
            calls = {node.name: called_names(node) for node in tree.body if isinstance(node, ast.FunctionDef)}
            settled = set()
            while True:
                more = {name for name in calls if not (calls[name] & set(calls)) - settled} - settled
                if not more:
                    break
                settled |= more
            self.assertEqual(settled, set(calls), path)


if __name__ == "__main__":
    unittest.main()
