"""Points 1, 2 and 5: NoPlace for what is no place, and nothing that is handed in is changed."""

import copy
import unittest

from lanemap.errors import LaneError, NoPlace
from lanemap.walks import around, is_shut, is_walk, joined, walk

COUNT = 4
LANES = [(0, 1), (1, 2), (2, 0)]
NO_PLACES = (-1, -COUNT, -COUNT - 1, COUNT, COUNT + 1, 10 ** 30, -10 ** 30, 10 ** 5000, -10 ** 5000)

# What is handed in behind the count and the lanes or ties; each function is asked with each of its rows.
CALLS = (
    (is_walk, (([0, 1],), ([],), ([0, 0],), ([-1],))),
    (is_shut, (([0, 1, 2],), ([],), ([1, 0],), ([COUNT],))),
    (walk, ((0, 2), (0, 0), (3, 0))),
    (around, ((0, 2, 1), (0, 0, 1), (3, 0, 1), (0, 1, 3))),
    (joined, ((0, 2), (0, 0), (3, 0))),
)


def all_calls():
    return [(asked, rest) for asked, rests in CALLS for rest in rests]


class NoPlaceInLanes(unittest.TestCase):
    def test_at_either_end_and_wherever_the_lane_stands(self):
        for asked, rest in all_calls():
            for number in NO_PLACES:
                for bad in ((number, 1), (1, number), (number, number)):
                    for lanes in ([bad], LANES + [bad], [bad] + LANES):
                        with self.subTest(asked=asked.__name__, size=number.bit_length(), at=lanes.index(bad)):
                            with self.assertRaises(NoPlace):
                                asked(COUNT, lanes, *rest)

    def test_no_places_at_all(self):
        for asked, rest in all_calls():
            with self.subTest(asked=asked.__name__), self.assertRaises(NoPlace):
                asked(0, [(0, 0)], *rest)

    def test_the_greatest_and_the_least_place_are_not_refused(self):
        lanes = [(0, 0), (COUNT - 1, COUNT - 1), (0, COUNT - 1), (COUNT - 1, 0)]
        for asked, rest in all_calls():
            with self.subTest(asked=asked.__name__):
                asked(COUNT, lanes, *rest)

    def test_it_is_refused_as_a_lane_error_and_a_value_error(self):
        for kind in (LaneError, ValueError):
            with self.assertRaises(kind):
                walk(1, [(0, 1)], 0, 0)


class NoPlaceAmongTheNumbers(unittest.TestCase):
    def test_each_number_in_turn(self):
        for asked, places in ((walk, (0, 2)), (around, (0, 2, 1)), (joined, (0, 2)), (walk, (1, 1)), (around, (0, 0, 1))):
            for number in NO_PLACES:
                for at in range(len(places)):
                    handed = places[:at] + (number,) + places[at + 1:]
                    for lanes in ([], LANES):
                        with self.subTest(asked=asked.__name__, at=at, size=number.bit_length()):
                            with self.assertRaises(NoPlace):
                                asked(COUNT, lanes, *handed)

    def test_the_same_no_place_twice(self):
        for number in (-1, COUNT):
            for asked, handed in ((walk, (number, number)), (joined, (number, number)), (around, (number, number, 0))):
                with self.subTest(asked=asked.__name__), self.assertRaises(NoPlace):
                    asked(COUNT, LANES, *handed)

    def test_no_places_at_all(self):
        for asked, handed in ((walk, (0, 0)), (joined, (0, 0)), (around, (0, 0, 0)), (around, (0, 1, 2))):
            with self.subTest(asked=asked.__name__), self.assertRaises(NoPlace):
                asked(0, [], *handed)

    def test_gone_is_the_one_or_the_other(self):
        for handed in ((0, 2, 0), (0, 2, 2), (1, 1, 1), (3, 0, 3)):
            for lanes in ([], LANES):
                with self.subTest(handed=handed), self.assertRaises(NoPlace):
                    around(COUNT, lanes, *handed)


class NothingIsChanged(unittest.TestCase):
    def same_after(self, asked, handed):
        before = copy.deepcopy(handed)
        try:
            asked(*handed)
        except NoPlace:
            pass
        self.assertEqual(handed, before)

    def test_whatever_is_asked(self):
        unsorted_lanes = [(2, 0), (0, 1), (0, 1), (1, 1), (3, 2), (1, 2)]
        for asked, rest in all_calls():
            for lanes in ([], list(LANES), unsorted_lanes, LANES + [(0, COUNT)], [(-1, 0)] + LANES):
                with self.subTest(asked=asked.__name__, lanes=lanes):
                    self.same_after(asked, (COUNT, lanes) + copy.deepcopy(rest))

    def test_rows_that_are_neither_walk_nor_wall(self):
        for asked in (is_walk, is_shut):
            for row in ([3, 2, 1, 0], [0, 0], [2, -1, 7], [1, 2, 0, 1]):
                self.same_after(asked, (COUNT, list(LANES), row))
                self.same_after(asked, (COUNT, [(0, COUNT)], row))

    def test_refused_numbers(self):
        for asked, handed in ((walk, (-1, 0)), (joined, (0, COUNT)), (around, (0, 1, 1)), (around, (0, 1, COUNT))):
            self.same_after(asked, (COUNT, list(LANES)) + handed)

    def test_an_answer_that_is_changed_changes_no_later_one(self):
        for asked, handed in ((walk, (0, 2)), (walk, (0, 3)), (joined, (0, 3)), (around, (0, 3, 2))):
            first = asked(COUNT, LANES, *handed)
            kept = copy.deepcopy(first)
            first[1].append(99)
            self.assertEqual(asked(COUNT, LANES, *handed), kept)


if __name__ == "__main__":
    unittest.main()
