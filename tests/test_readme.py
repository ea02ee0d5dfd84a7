"""README.md: what it shows can be run, and tells what it says where it says it as a value."""

import ast
import pathlib
import re
import unittest

README = pathlib.Path(__file__).resolve().parent.parent / "README.md"
BLOCKS = re.findall(r"```python\n(.*?)```", README.read_text(encoding="utf-8"), re.S)


def told(comment):
    """(True, value) where a comment begins with a value, else (False, None)."""
    for end in range(len(comment), 0, -1):
        if end == len(comment) or comment[end] in ":;,":
            try:
                return True, ast.literal_eval(comment[:end].strip())
            except (SyntaxError, ValueError):
                pass
    return False, None


class ReadmeTest(unittest.TestCase):
    def test_it_runs(self):
        names, values = {}, 0
        for block in BLOCKS:
            lines = block.split("\n")
            for statement in ast.parse(block).body:
                source = ast.get_source_segment(block, statement)
                if not isinstance(statement, ast.Expr):
                    exec(source, names)
                    continue
                came = eval(source, names)
                there, value = told(lines[statement.end_lineno - 1][statement.end_col_offset:].strip().lstrip("# "))
                if there:
                    values += 1
                    self.assertEqual(came, value, source)
        self.assertGreater(values, 30)


if __name__ == "__main__":
    unittest.main()
