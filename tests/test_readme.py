"""The examples of README.md answer what it says."""

import ast
import os
import re
import unittest

from seasonboard.table import answers

README = os.path.join(os.path.dirname(os.path.abspath(__file__)), "..", "README.md")


class Examples(unittest.TestCase):
    def test_each_of_them(self):
        with open(README, encoding="utf-8") as file:
            examples = re.findall(r"^    answers\((\[.*\])\)\n    # (\[.*\])$", file.read(), re.MULTILINE)
        self.assertEqual(len(examples), 2)
        for calls, told in examples:
            self.assertEqual(answers(ast.literal_eval(calls)), ast.literal_eval(told))


if __name__ == "__main__":
    unittest.main()
