"""The examples of the document and of the README."""

import ast
import doctest
import unittest
from pathlib import Path


class Examples(unittest.TestCase):
    def test_examples_of_the_document(self):
        result = doctest.testfile("examples.txt")
        self.assertEqual(result.failed, 0)
        self.assertEqual(result.attempted, 85)

    def test_example_of_the_readme(self):
        text = (Path(__file__).parent.parent / "README.md").read_text()
        rows = [row[4:] for row in text.splitlines() if row.startswith("    ") and "python3 " not in row
                and "bash " not in row]
        known, tried = {}, 0
        for row in rows:
            code, _, told = row.partition("#")
            code, told = code.strip(), told.strip()
            if told and isinstance(ast.parse(code).body[0], ast.Expr):
                self.assertEqual(eval(code, known), eval(told, known), row)
                tried += 1
            elif code:
                exec(code, known)
                if told:
                    self.assertEqual(known[code.split(" ")[0]], eval(told, known), row)
                    tried += 1
        self.assertEqual(tried, 64)


if __name__ == "__main__":
    unittest.main()
