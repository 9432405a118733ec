"""What README.md shows is what the program answers."""

import pathlib
import re
import unittest

from cupsalong.cups import answers

README = pathlib.Path(__file__).parent.parent / "README.md"


class Readme(unittest.TestCase):
    def test_its_examples(self):
        found = re.findall(r"```python\n(.*?)```", README.read_text(encoding="utf-8"), re.DOTALL)
        self.assertEqual(len(found), 2)
        for text in found:
            asked = re.search(r"^answers\((\[.*?^\])\)", text, re.DOTALL | re.MULTILINE).group(1)
            shown = re.search(r"^# (\[.*\])$", text, re.MULTILINE).group(1)
            self.assertEqual(answers(eval(asked)), eval(shown))
