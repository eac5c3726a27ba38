"""What README.md shows is what is answered."""

import re
import unittest
from pathlib import Path

from lanemap import walks

README = Path(__file__).resolve().parent.parent / "README.md"


class Readme(unittest.TestCase):
    def test_each_answer_shown(self):
        text = README.read_text(encoding="utf-8")
        names = dict(vars(walks), lanes=[(0, 1), (1, 2), (0, 2), (2, 3)])
        self.assertIn(f"lanes = {names['lanes']}", text)
        shown = re.findall(r"^(\w+\(.*\)) +# (\(.*?\]\)|True|False)", text, re.MULTILINE)
        self.assertEqual(len(shown), 7)
        for asked, answer in shown:
            with self.subTest(asked=asked):
                self.assertEqual(eval(asked, dict(names)), eval(answer, {}))


if __name__ == "__main__":
    unittest.main()
