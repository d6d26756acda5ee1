"""The example of README.md does what is written beside it."""

import ast
import os
import re
import unittest

ROOT = os.path.dirname(os.path.dirname(os.path.abspath(__file__)))


class TestReadme(unittest.TestCase):
    def test_example(self):
        with open(os.path.join(ROOT, "README.md"), encoding="ascii") as file:
            code = re.search(r"```python\n(.*?)```", file.read(), re.S).group(1)
        names = {}
        count = 0
        for row in ast.parse(code).body:
            text = "\n".join(code.split("\n")[row.lineno - 1 : row.end_lineno])
            if "  # " in text:
                asked, told = text.rsplit("#", 1)
                self.assertEqual(eval(asked.strip(), names), eval(told.strip()), text)
                count += 1
            else:
                exec(text, names)
        self.assertEqual(count, 23)


if __name__ == "__main__":
    unittest.main()
