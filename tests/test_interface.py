"""The names and arguments of the interface are there as they stand."""

import inspect
import unittest

from lanemap import walks

ARGUMENTS = {
    "is_walk": ["count", "lanes", "row"],
    "is_shut": ["count", "lanes", "row"],
    "walk": ["count", "lanes", "one", "other"],
    "around": ["count", "lanes", "one", "other", "gone"],
    "joined": ["count", "ties", "one", "other"],
}


class Interface(unittest.TestCase):
    def test_walks(self):
        for name, arguments in ARGUMENTS.items():
            with self.subTest(name=name):
                self.assertEqual(list(inspect.signature(getattr(walks, name)).parameters), arguments)


if __name__ == "__main__":
    unittest.main()
