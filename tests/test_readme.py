"""What README.md shows is what the program tells."""

import ast
import pathlib
import re
import unittest

README = pathlib.Path(__file__).parent.parent / "README.md"


class Readme(unittest.TestCase):
    def test_each_example(self):
        names = {}
        shown = 0
        for block in re.findall("```python\n(.*?)```", README.read_text(), re.DOTALL):
            lines = block.split("\n")
            for node in ast.parse(block).body:
                code = ast.get_source_segment(block, node)
                if not isinstance(node, ast.Expr):
                    exec(code, names)
                    continue
                told = repr(eval(code, names)).replace("'", '"')
                note = lines[node.end_lineno - 1][node.end_col_offset:].strip()
                if note or told != "None":
                    self.assertTrue(note.startswith("# " + told), (code, told, note))
                    shown += 1
        self.assertGreater(shown, 30)


if __name__ == "__main__":
    unittest.main()
