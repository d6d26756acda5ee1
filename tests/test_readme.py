"""The example of README.md does what is written beside it."""

import os
import re
import unittest

ROOT = os.path.dirname(os.path.dirname(os.path.abspath(__file__)))


class TestReadme(unittest.TestCase):
    def test_example(self):
        with open(os.path.join(ROOT, "README.md"), encoding="ascii") as file:
            code = re.search(r"```python\n(.*?)```", file.read(), re.S).group(1)
        names = {}
        exec(code, names)
        count = 0
        for line in code.split("\n"):
            if " # " in line or "  # " in line:
                asked, told = line.rsplit("#", 1)
                self.assertEqual(eval(asked.strip(), names), eval(told.strip()))
                count += 1
        self.assertEqual(count, 10)


if __name__ == "__main__":
    unittest.main()
