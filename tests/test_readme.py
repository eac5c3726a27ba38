"""What README.md shows is what is answered."""

import re
import unittest
from pathlib import Path

README = Path(__file__).resolve().parent.parent / "README.md"


class Readme(unittest.TestCase):
    def test_each_answer_shown(self):
        block = re.search(r"```python\n(.*?)```", README.read_text(encoding="utf-8"), re.DOTALL).group(1)
        names = {}
        answers = 0
        for row in block.splitlines():
            asked, _, remark = row.partition("#")
            if not remark:
                exec(row, names)
                continue
            with self.subTest(asked=asked):
                self.assertEqual(eval(asked, names), eval(remark.split(": ")[0], {}))
            answers += 1
        self.assertEqual(answers, 23)


if __name__ == "__main__":
    unittest.main()
