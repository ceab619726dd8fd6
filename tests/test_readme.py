"""The example in README.md answers what it says there."""

import ast
import pathlib
import re
import unittest

from keptrows.versions import answers

README = pathlib.Path(__file__).resolve().parent.parent / "README.md"


class ExampleTest(unittest.TestCase):
    def test_the_example_answers_as_told(self):
        example = re.search(r"```python\n(.*?)```", README.read_text(encoding="utf-8"), re.DOTALL).group(1)
        handed = re.search(r"answers\((\[.*?\])\)", example, re.DOTALL).group(1)
        told = re.search(r"^# (\[.*\])$", example, re.MULTILINE).group(1)
        self.assertEqual(answers(ast.literal_eval(handed)), ast.literal_eval(told))


if __name__ == "__main__":
    unittest.main()
