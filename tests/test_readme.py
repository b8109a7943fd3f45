"""README.md's own examples answer what it says."""

import ast
import pathlib
import re
import unittest

README = pathlib.Path(__file__).resolve().parent.parent / "README.md"


def examples():
    """Triples (row, what is written ahead of the remark, the remark or None), block by block."""
    for block in re.findall(r"```python\n(.*?)```", README.read_text("utf-8"), re.S):
        for row in block.splitlines():
            ahead, sign, remark = row.partition("  # ")
            yield row, ahead.strip(), remark if sign else None


def told_value(remark):
    try:
        return ast.literal_eval(remark), True
    except (SyntaxError, ValueError):
        return None, False


class Examples(unittest.TestCase):
    def test_each_row_answers_as_told(self):
        names, compared = {}, 0
        for row, ahead, remark in examples():
            with self.subTest(row=row):
                exec(ahead, names)
                value, is_plain = told_value(remark) if remark else (None, False)
                if is_plain:
                    compared += 1
                    asked = re.sub(r"\A[a-z_]+ = ", "", ahead)
                    self.assertEqual(eval(asked, names), value)
        self.assertTrue(compared >= 15)


if __name__ == "__main__":
    unittest.main()
