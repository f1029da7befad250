"""The examples of README.md, run."""

import pathlib
import re
import unittest

README = pathlib.Path(__file__).resolve().parent.parent / "README.md"


class Examples(unittest.TestCase):
    def test_each_row_tells_what_stands_behind_it(self):
        names = {}
        asked = 0
        for block in re.findall(r"```python\n(.*?)```", README.read_text(), re.S):
            for row in block.splitlines():
                done, told = re.fullmatch(r"(.*?)(?:\s+# (.*))?", row).groups()
                given = re.match(r"(\w+) = ", done)
                if given or done.startswith("from "):
                    exec(done, names)
                if told is not None:
                    asked += 1
                    self.assertEqual(eval(given.group(1) if given else done, names), eval(told), row)
        self.assertGreater(asked, 50)
