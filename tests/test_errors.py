"""The refusals: NoPlace, NoWay and NoTie are LaneErrors, and so ValueErrors."""

import unittest

from lanemap.errors import LaneError, NoPlace, NoTie, NoWay


class Errors(unittest.TestCase):
    def test_any_refusal_is_a_value_error(self):
        self.assertTrue(issubclass(LaneError, ValueError))

    def test_each_refusal_is_a_lane_error(self):
        for kind in (NoPlace, NoWay, NoTie):
            with self.subTest(kind=kind.__name__):
                self.assertTrue(issubclass(kind, LaneError))
                with self.assertRaises(LaneError):
                    raise kind("words")
                with self.assertRaises(ValueError):
                    raise kind("words")

    def test_no_refusal_is_another_one(self):
        kinds = (NoPlace, NoWay, NoTie)
        for kind in kinds:
            for another in kinds:
                self.assertEqual(issubclass(kind, another), kind is another)


if __name__ == "__main__":
    unittest.main()
