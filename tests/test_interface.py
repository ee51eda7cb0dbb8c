"""The interface: names, arguments, what is given back, and that nothing is changed, kept, printed, read or imported."""

import ast
import builtins
import contextlib
import copy
import inspect
import io
import pathlib
import subprocess
import sys
import unittest
import unittest.mock

from coinmoves import places
from plain_way import KITE_5, graph_of

ARGUMENTS = {
    "pc_most": ["n", "r", "g", "c"],
    "pc_number": ["n", "g"],
    "pc_short": ["n", "g"],
    "pc_cover": ["n", "g"],
    "pc_covers": ["n", "g", "c"],
    "pc_well": ["n", "g"],
}

# Of each function some calls, and what they answer: among them each refusal, and the most that is asked of it.
CALLS = [
    ("pc_most", (6, 3, [2, 5, 10, 20, 40, 16], [16, 0, 0, 0, 0, 0]), [2]),
    ("pc_most", (5, 4, [6, 13, 11, 22, 8], [3, 4, 2, 1, 0]), [2]),
    ("pc_most", (1, 0, [0], [7]), [7]),
    ("pc_most", (2, 1, [2, 1], [101, 0]), [-3]),
    ("pc_most", (3, 3, [2, 5, 2], [4, 0, 0]), [-2]),
    ("pc_most", (3, 0, [2, 4, 2], [4, 0, 0]), [-3]),
    ("pc_most", (0, 0, [], []), [-2]),
    ("pc_number", (1, [0]), [1]),
    ("pc_number", (3, [2, 5, 2]), [4]),
    ("pc_number", (3, [6, 5, 3]), [3]),
    ("pc_number", (5, [2, 5, 10, 20, 8]), [16]),
    ("pc_number", (6, [34, 5, 10, 20, 40, 17]), [8]),
    ("pc_number", (3, [2, 4, 2]), [-3]),
    ("pc_number", (7, []), [-2]),
    ("pc_short", (1, [0]), [0, 0]),
    ("pc_short", (3, [2, 5, 2]), [0, 0, 0, 3]),
    ("pc_short", (3, [6, 5, 3]), [0, 0, 1, 1]),
    ("pc_short", (5, [2, 5, 10, 20, 8]), [0, 0, 0, 0, 0, 15]),
    ("pc_short", (6, [34, 5, 10, 20, 40, 17]), [0, 0, 0, 0, 0, 0, 7]),
    ("pc_short", (3, [2, 4, 2]), [-3]),
    ("pc_short", (7, []), [-2]),
    ("pc_cover", (1, [0]), [1]),
    ("pc_cover", (3, [2, 5, 2]), [7]),
    ("pc_cover", (3, [6, 5, 3]), [5]),
    ("pc_cover", (6, [2, 5, 10, 20, 40, 16]), [63]),
    ("pc_cover", (6, [34, 5, 10, 20, 40, 17]), [21]),
    ("pc_cover", (3, [2, 4, 2]), [-3]),
    ("pc_cover", (7, []), [-2]),
    ("pc_covers", (1, [0], [0]), [0]),
    ("pc_covers", (1, [0], [1]), [1]),
    ("pc_covers", (3, [2, 5, 2], [7, 0, 0]), [1]),
    ("pc_covers", (3, [2, 5, 2], [6, 0, 0]), [0]),
    ("pc_covers", (6, [62, 61, 59, 55, 47, 31], [16, 0, 0, 0, 0, 0]), [1]),
    ("pc_covers", (6, [34, 5, 10, 20, 40, 17], [16, 0, 0, 0, 0, 0]), [0]),
    ("pc_covers", (2, [2, 1], [0, 101]), [-3]),
    ("pc_covers", (3, [2, 4, 2], [7, 0, 0]), [-3]),
    ("pc_covers", (7, [], []), [-2]),
    ("pc_well", (1, [0]), [1]),
    ("pc_well", (3, [2, 5, 2]), [2]),
    ("pc_well", (5, [2, 5, 10, 20, 8]), [4]),
    ("pc_well", (6, [34, 5, 10, 20, 40, 17]), [4]),
    ("pc_well", (6, [62, 61, 59, 55, 47, 31]), [2]),
    ("pc_well", (3, [2, 4, 2]), [-3]),
    ("pc_well", (7, []), [-2]),
]


class UnchangedList(list):
    """A list that refuses each change, a change for a while too."""

    def refuse(self, *args, **kwargs):
        raise RuntimeError("what is handed in is not to be changed")

    __setitem__ = __delitem__ = __iadd__ = __imul__ = refuse
    append = clear = extend = insert = pop = remove = reverse = sort = refuse


def answer_of(name, given):
    return getattr(places, name)(*copy.deepcopy(given))


class Interface(unittest.TestCase):
    def hold(self, name, given, want):
        with self.subTest(name=name, given=given):
            self.assertEqual(answer_of(name, given), want)

    def test_each_function_is_there_and_has_calls_here(self):
        six = ["pc_most", "pc_number", "pc_short", "pc_cover", "pc_covers", "pc_well"]
        self.assertEqual([name for name in vars(places) if name.startswith("pc_")], six)
        self.assertEqual(list(ARGUMENTS), six)
        for name in six:
            self.assertEqual(getattr(places, name).__module__, "coinmoves.places")
            wants = [want for called, given, want in CALLS if called == name]
            self.assertTrue([-2] in wants and [-3] in wants and len(wants) > 4, name)

    def test_names_of_arguments(self):
        for name, arguments in ARGUMENTS.items():
            parameters = inspect.signature(getattr(places, name)).parameters
            self.assertEqual(list(parameters), arguments, name)
            self.assertEqual({part.kind for part in parameters.values()}, {inspect.Parameter.POSITIONAL_OR_KEYWORD})
            self.assertEqual({part.default for part in parameters.values()}, {inspect.Parameter.empty})

    def test_arguments_by_name(self):
        for name, given, want in CALLS:
            named = dict(zip(ARGUMENTS[name], copy.deepcopy(given)))
            self.assertEqual(getattr(places, name)(**named), want, name)

    def test_answers_are_lists_of_whole_numbers(self):
        for name, given, want in CALLS:
            answer = answer_of(name, given)
            self.assertIs(type(answer), list)
            self.assertEqual([type(number) for number in answer], [int] * len(want), name)
            self.assertEqual(answer, want, (name, given))

    def test_what_is_handed_in_stays_as_it_was(self):
        for name, given, want in CALLS:
            handed = [UnchangedList(part) if isinstance(part, list) else part for part in given]
            self.assertEqual(getattr(places, name)(*handed), want, name)
            self.assertEqual(handed, list(given), name)
            plain = copy.deepcopy(given)
            getattr(places, name)(*plain)
            self.assertEqual(plain, given, name)

    def test_same_answer_again_and_after_other_calls(self):
        for turn in range(2):
            for name, given, want in CALLS:
                self.hold(name, given, want)
                self.hold(name, given, want)
        for name, given, want in reversed(CALLS):
            self.hold(name, given, want)

    def test_same_lists_with_other_numbers_in_them(self):
        g, c = graph_of(5, KITE_5), [8, 0, 0, 0, 0]
        self.assertEqual(places.pc_most(5, 4, g, c), [1])
        self.assertEqual(places.pc_covers(5, g, c), [0])
        c[0] = 7
        self.assertEqual(places.pc_most(5, 4, g, c), [0])
        self.assertEqual(places.pc_number(5, g), [8])
        self.assertEqual(places.pc_short(5, g), [0, 0, 0, 0, 0, 7])
        self.assertEqual(places.pc_cover(5, g), [19])
        self.assertEqual(places.pc_well(5, g), [3])
        g[0], g[4] = g[0] | 16, g[4] | 1
        self.assertEqual(places.pc_most(5, 4, g, c), [3])
        self.assertEqual(places.pc_number(5, g), [5])
        self.assertEqual(places.pc_short(5, g), [0, 0, 0, 1, 0, 3])
        self.assertEqual(places.pc_cover(5, g), [13])
        self.assertEqual(places.pc_well(5, g), [3])
        c[0] = 11
        self.assertEqual(places.pc_covers(5, g, c), [1])

    def test_an_answer_is_the_callers_own(self):
        for name, given, want in CALLS:
            answer_of(name, given).append(5)
            self.hold(name, given, want)

    def test_nothing_is_kept_in_the_module(self):
        before = copy.copy(vars(places))
        shown = repr([(name, value) for name, value in before.items() if not name.startswith("__")])
        for name, given, want in CALLS:
            answer_of(name, given)
            self.assertEqual(vars(getattr(places, name)), {})
        after = vars(places)
        self.assertEqual(before.keys(), after.keys())
        self.assertEqual(shown, repr([(name, after[name]) for name in before if not name.startswith("__")]))

    def test_nothing_is_printed_or_read(self):
        out, err = io.StringIO(), io.StringIO()
        refuse = unittest.mock.Mock(side_effect=RuntimeError("nothing is to be read"))
        with contextlib.redirect_stdout(out), contextlib.redirect_stderr(err):
            with unittest.mock.patch.object(builtins, "open", refuse), unittest.mock.patch.object(sys, "stdin", None):
                answers = [answer_of(name, given) for name, given, want in CALLS]
        self.assertEqual(answers, [want for name, given, want in CALLS])
        self.assertEqual((out.getvalue(), err.getvalue()), ("", ""))

    def test_nothing_is_imported(self):
        tree = ast.parse(pathlib.Path(places.__file__).read_text(encoding="utf-8"))
        self.assertEqual([node for node in ast.walk(tree) if isinstance(node, (ast.Import, ast.ImportFrom))], [])

    def test_importing_prints_nothing(self):
        done = subprocess.run([sys.executable, "-c", "import coinmoves.places"], capture_output=True, check=True,
                              cwd=pathlib.Path(places.__file__).parent.parent)
        self.assertEqual((done.stdout, done.stderr), (b"", b""))

    def test_calls_are_not_nested_deep(self):
        deepest = [0]

        def watch(frame, event, argument):
            depth = 0
            while frame is not None:
                depth, frame = depth + 1, frame.f_back
            deepest[0] = max(deepest[0], depth)

        here = len(inspect.stack())
        for name, given, want in CALLS:
            given = copy.deepcopy(given)
            sys.setprofile(watch)
            try:
                getattr(places, name)(*given)
            finally:
                sys.setprofile(None)
        self.assertLess(deepest[0] - here, 20)


if __name__ == "__main__":
    unittest.main()
