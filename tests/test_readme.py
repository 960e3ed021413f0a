"""Holds the examples of README.md to what the program answers."""

import pathlib
import re
import unittest

README = pathlib.Path(__file__).resolve().parent.parent / "README.md"


class TheExamples(unittest.TestCase):
    def test_each_row(self):
        names = {}
        shown = 0
        for block in re.findall(r"```python\n(.*?)```", README.read_text(encoding="utf-8"), re.S):
            for line in block.splitlines():
                code, sign, told = line.partition("  # ")
                if sign:
                    self.assertEqual(repr(eval(code, names)), told.strip(), code)
                    shown += 1
                else:
                    exec(code, names)
        self.assertGreater(shown, 15)


if __name__ == "__main__":
    unittest.main()
