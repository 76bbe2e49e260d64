"""What README.md shows is what the program tells."""

import ast
import pathlib
import re
import unittest

README = pathlib.Path(__file__).resolve().parent.parent / "README.md"


class Readme(unittest.TestCase):
    def test_examples(self):
        names, shown = {}, 0
        for block in re.findall(r"```python\n(.*?)```", README.read_text("ascii"), re.S):
            for row in block.split("\n"):
                code, _, told = row.partition("  #")
                if told and isinstance(ast.parse(code.strip()).body[0], ast.Expr):
                    # Behind a colon and a blank stand words for the reader.
                    self.assertEqual(eval(code, names), eval(told.split(": ")[0], names), row)
                    shown += 1
                else:
                    exec(row, names)
                    if told:
                        target = ast.parse(code.strip()).body[0].targets[0].id
                        self.assertEqual(names[target], eval(told.split(": ")[0], names), row)
        self.assertGreater(shown, 20)


if __name__ == "__main__":
    unittest.main()
