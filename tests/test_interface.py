"""The names and arguments of the interface are there as they stand."""

import inspect
import unittest

from lanemap import musts, parts, ties, walks

ARGUMENTS = {
    walks: {
        "is_walk": ["count", "lanes", "row"],
        "is_shut": ["count", "lanes", "row"],
        "walk": ["count", "lanes", "one", "other"],
        "around": ["count", "lanes", "one", "other", "gone"],
        "joined": ["count", "ties", "one", "other"],
    },
    parts: {
        "parts": ["count", "lanes"],
        "part_numbers": ["count", "lanes"],
        "between_parts": ["count", "lanes"],
        "depths": ["count", "lanes"],
        "deepest": ["count", "lanes"],
        "round_trip": ["count", "lanes", "one", "other"],
    },
    musts: {
        "leaders": ["count", "lanes", "start"],
        "musts": ["count", "lanes", "start", "place"],
    },
    ties: {
        "bridges": ["count", "ties"],
        "cut_places": ["count", "ties"],
        "tie_told": ["count", "ties", "number"],
        "place_told": ["count", "ties", "place"],
    },
}


class Interface(unittest.TestCase):
    def test_names_and_arguments(self):
        for module, functions in ARGUMENTS.items():
            for name, arguments in functions.items():
                with self.subTest(module=module.__name__, name=name):
                    self.assertEqual(list(inspect.signature(getattr(module, name)).parameters), arguments)


if __name__ == "__main__":
    unittest.main()
