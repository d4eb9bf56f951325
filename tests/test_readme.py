"""What README.md shows is what the program tells."""

import os
import re
import unittest

ROOT = os.path.dirname(os.path.dirname(os.path.abspath(__file__)))
SHOWN = 49


class Readme(unittest.TestCase):
    def test_each_line_of_the_example(self):
        with open(os.path.join(ROOT, "README.md"), encoding="utf-8") as opened:
            text = opened.read()
        code = re.search(r"```python\n(.*?)```", text, re.DOTALL).group(1)
        names = {}
        shown = 0
        for line in code.splitlines():
            asked = re.fullmatch(r"([\w.]+\(.*\)) +# (.*?)(?:: .*)?", line)
            if asked:
                shown += 1
                self.assertEqual(repr(eval(asked.group(1), names)), asked.group(2), line)
            else:
                exec(line, names)
        self.assertEqual(shown, SHOWN)


if __name__ == "__main__":
    unittest.main()
