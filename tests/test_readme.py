"""What README.md shows is what the program tells."""

import os
import re
import unittest

ROOT = os.path.dirname(os.path.dirname(os.path.abspath(__file__)))


class Readme(unittest.TestCase):
    def test_each_line_of_the_example(self):
        with open(os.path.join(ROOT, "README.md"), encoding="utf-8") as opened:
            text = opened.read()
        code = re.search(r"```python\n(.*?)```", text, re.DOTALL).group(1)
        names = {}
        exec(code, names)
        shown = re.findall(r"^(\w+\(.*\)) +# (.*?)(?:: .*)?$", code, re.MULTILINE)
        self.assertEqual(len(shown), 29)
        for asked, told in shown:
            self.assertEqual(repr(eval(asked, names)), told, asked)


if __name__ == "__main__":
    unittest.main()
