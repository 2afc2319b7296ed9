"""What the interface says of `answers` itself: it changes nothing that is handed in, and prints and imports nothing."""

import ast
import contextlib
import io
import pathlib
import unittest

from helper import BEST, FAIR, FEWEST, TOP, at, bar, begins, check, game, line, way
from refereeplans.day import NoSuchCall, answers

PACKAGE = pathlib.Path(__file__).resolve().parent.parent / "refereeplans"
CHANGES = (
    "append", "clear", "extend", "insert", "pop", "remove", "reverse", "sort",
    "__setitem__", "__delitem__", "__iadd__", "__imul__",
)


def refuse_change(*args, **kwargs):
    raise AssertionError("the list that was handed in is changed")


# A list that cannot be changed even for a while.
Untouched = type("Untouched", (list,), {name: refuse_change for name in CHANGES})

LINES = (
    line(begins(4, 4), way(0, 3, 1000), game(3, 0, 1000, 19, 0), bar(3, 19)),
    line(begins(0, 0), way(0, 0, 1001), game(1, 2, 1, 0, 0), bar(0, 20), bar(0, 3), bar(0, 3)),
    line(begins(TOP, TOP), way(TOP, TOP, TOP), game(TOP, TOP, TOP, TOP, TOP), bar(TOP, TOP)),
    line(*[game()] * 7),
    line(check(), BEST, FEWEST, FAIR, check(0), check(*[TOP] * 8)),
    line(begins(2, 2), way(0, 1, 20), at(0), at(50, 1), at(200), check(0, 1, 0), check(1, 0), BEST, FEWEST, FAIR, BEST),
    line(at(0), at(5), check(0, 0), bar(0, 1), check(0, 0), check(0, 1), BEST, FEWEST, FAIR),
)


class Interface(unittest.TestCase):
    def test_the_list_stays_as_it_was(self):
        for calls in LINES:
            with self.subTest(calls=calls):
                before = list(calls)
                given = answers(calls)
                self.assertEqual(calls, before)
                self.assertIsNot(given, calls)

    def test_the_list_is_not_changed_for_a_while_either(self):
        for calls in LINES:
            with self.subTest(calls=calls):
                given = answers(Untouched(calls))
                self.assertEqual(given, answers(calls))
                self.assertIs(type(given), list)
                self.assertEqual({type(number) for number in given}, {int})

    def test_a_second_time_answers_as_the_first(self):
        first = [answers(calls) for calls in LINES]
        self.assertEqual([answers(calls) for calls in LINES], first)
        self.assertEqual([answers(calls) for calls in reversed(LINES)], first[::-1])

    def test_changing_what_was_given_back_changes_nothing(self):
        for calls in LINES:
            with self.subTest(calls=calls):
                given = answers(calls)
                before = list(given)
                given.clear()
                self.assertEqual(answers(calls), before)

    def test_it_prints_nothing(self):
        out, err = io.StringIO(), io.StringIO()
        with contextlib.redirect_stdout(out), contextlib.redirect_stderr(err):
            for calls in LINES:
                answers(calls)
        self.assertEqual((out.getvalue(), err.getvalue()), ("", ""))

    def test_it_imports_nothing(self):
        for path in sorted(PACKAGE.glob("*.py")):
            with self.subTest(path.name):
                tree = ast.parse(path.read_text())
                imports = [node for node in ast.walk(tree) if isinstance(node, (ast.Import, ast.ImportFrom))]
                self.assertEqual(imports, [])

    def test_a_call_that_is_not_known_is_not_taken_for_another(self):
        self.assertRaises(NoSuchCall, answers, [8, 2, 0, 0, 0])


if __name__ == "__main__":
    unittest.main()
