"""The example in README.md answers what it says there, and the table tells of all eight calls."""

import ast
import pathlib
import re
import unittest

from refereeplans.day import answers

TEXT = (pathlib.Path(__file__).resolve().parent.parent / "README.md").read_text()


class Readme(unittest.TestCase):
    def test_the_example(self):
        asked, given = re.findall(r"```python\n(.*?)```", TEXT, re.DOTALL)
        calls = asked[asked.index("answers(["):].removeprefix("answers(").strip().removesuffix(")")
        self.assertEqual(answers(ast.literal_eval(calls)), ast.literal_eval(given))

    def test_all_eight_calls(self):
        rows = re.findall(r"^\| (\w+) \| (\d) \|", TEXT, re.MULTILINE)
        names = ("begins", "way", "game", "bar", "check", "best", "fewest", "fair")
        self.assertEqual(rows, [(name, str(number)) for number, name in enumerate(names)])


if __name__ == "__main__":
    unittest.main()
