"""The README's example answers what it says."""

import ast
import pathlib
import unittest

from cardtable.table import answers

README = pathlib.Path(__file__).resolve().parent.parent / "README.md"


class Example(unittest.TestCase):
    def test_it_answers_what_it_says(self):
        code = README.read_text(encoding="utf-8").split("```python")[1].split("```")[0]
        told = code[code.index("# [") :].replace("#", "")
        calls = ast.parse(code).body[-1].value.args[0]
        self.assertEqual(answers(ast.literal_eval(calls)), ast.literal_eval(told.strip()))
