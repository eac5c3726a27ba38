"""Points 1, 2 and 5: NoPlace for what is no place, ahead of any other refusal, and nothing handed in is changed."""

import copy
import unittest

from lanemap.errors import LaneError, NoPlace, NoTie, NoWay
from lanemap.musts import leaders, musts
from lanemap.parts import between_parts, deepest, depths, part_numbers, parts, round_trip
from lanemap.ties import bridges, cut_places, place_told, tie_told
from lanemap.walks import around, is_shut, is_walk, joined, walk

COUNT = 4
LANES = [(0, 1), (1, 2), (2, 0)]
NO_PLACES = (-1, -2, -COUNT, -COUNT - 1, COUNT, COUNT + 1, 10 ** 30, -10 ** 30, 10 ** 5000, -10 ** 5000)
NO_TIES = (-1, -2, -len(LANES), -len(LANES) - 1, len(LANES), len(LANES) + 1, 10 ** 30, 10 ** 5000)

# What is handed in behind the count and the lanes or ties; each function is asked with each of its rows.
# No lane touches place 3, so some rows of musts are due to be refused with NoWay; all of tie_told but the first with
# NoTie.
CALLS = (
    (is_walk, (([0, 1],), ([],), ([0, 0],), ([-1],))),
    (is_shut, (([0, 1, 2],), ([],), ([1, 0],), ([COUNT],))),
    (walk, ((0, 2), (0, 0), (3, 0))),
    (around, ((0, 2, 1), (0, 0, 1), (3, 0, 1), (0, 1, 3))),
    (joined, ((0, 2), (0, 0), (3, 0))),
    (parts, ((),)),
    (part_numbers, ((),)),
    (between_parts, ((),)),
    (depths, ((),)),
    (deepest, ((),)),
    (round_trip, ((0, 2), (0, 0), (3, 0), (0, 3))),
    (leaders, ((0,), (3,))),
    (musts, ((0, 2), (0, 0), (3, 3), (3, 0), (0, 3))),
    (bridges, ((),)),
    (cut_places, ((),)),
    (tie_told, ((0,),) + tuple((number,) for number in NO_TIES)),
    (place_told, ((0,), (3,))),
)
# The functions that take numbers that should be places, and such numbers. That of tie_told is not one of these.
PLACES = (
    (walk, (0, 2)), (walk, (1, 1)), (around, (0, 2, 1)), (around, (0, 0, 1)), (joined, (0, 2)),
    (round_trip, (0, 2)), (round_trip, (1, 1)), (round_trip, (0, 3)),
    (leaders, (0,)), (musts, (0, 2)), (musts, (1, 1)), (musts, (0, 3)), (place_told, (0,)),
)


def all_calls():
    return [(asked, rest) for asked, rests in CALLS for rest in rests]


class NoPlaceInLanes(unittest.TestCase):
    def test_at_either_end_and_wherever_the_lane_stands(self):
        for asked, rest in all_calls():
            for number in NO_PLACES:
                for bad in ((number, 1), (1, number), (number, number)):
                    for lanes in ([bad], LANES + [bad], [bad] + LANES):
                        with self.subTest(asked=asked.__name__, size=number.bit_length(), at=lanes.index(bad)):
                            with self.assertRaises(NoPlace):
                                asked(COUNT, lanes, *rest)

    def test_no_places_at_all(self):
        for asked, rest in all_calls():
            with self.subTest(asked=asked.__name__), self.assertRaises(NoPlace):
                asked(0, [(0, 0)], *rest)

    def test_the_greatest_and_the_least_place_are_not_refused(self):
        lanes = [(0, 0), (COUNT - 1, COUNT - 1), (0, COUNT - 1), (COUNT - 1, 0)]
        for asked, rest in all_calls():
            with self.subTest(asked=asked.__name__):
                try:
                    asked(COUNT, lanes, *rest)
                except (NoWay, NoTie):
                    pass

    def test_it_is_refused_as_a_lane_error_and_a_value_error(self):
        for kind in (LaneError, ValueError):
            with self.assertRaises(kind):
                walk(1, [(0, 1)], 0, 0)


class NoPlaceAmongTheNumbers(unittest.TestCase):
    def test_each_number_in_turn(self):
        for asked, places in PLACES:
            for number in NO_PLACES:
                for at in range(len(places)):
                    handed = places[:at] + (number,) + places[at + 1:]
                    for lanes in ([], LANES):
                        with self.subTest(asked=asked.__name__, at=at, size=number.bit_length()):
                            with self.assertRaises(NoPlace):
                                asked(COUNT, lanes, *handed)

    def test_the_same_no_place_throughout(self):
        for number in (-1, COUNT):
            for asked, places in PLACES:
                with self.subTest(asked=asked.__name__), self.assertRaises(NoPlace):
                    asked(COUNT, LANES, *(number for _ in places))
            with self.assertRaises(NoPlace):
                around(COUNT, LANES, number, number, 0)

    def test_no_places_at_all(self):
        for asked, places in PLACES:
            for number in (0, 1, -1):
                with self.subTest(asked=asked.__name__, number=number), self.assertRaises(NoPlace):
                    asked(0, [], *(number for _ in places))

    def test_gone_is_the_one_or_the_other(self):
        for handed in ((0, 2, 0), (0, 2, 2), (1, 1, 1), (3, 0, 3)):
            for lanes in ([], LANES):
                with self.subTest(handed=handed), self.assertRaises(NoPlace):
                    around(COUNT, lanes, *handed)


class AheadOfAnyOtherRefusal(unittest.TestCase):
    def test_where_no_way_is_due_too(self):
        with self.assertRaises(NoWay):
            musts(COUNT, LANES, 0, 3)
        for number in NO_PLACES:
            for bad in ((number, 0), (3, number)):
                with self.subTest(size=number.bit_length()), self.assertRaises(NoPlace):
                    musts(COUNT, LANES + [bad], 0, 3)

    def test_where_no_tie_is_due_too(self):
        for wrong in NO_TIES:
            with self.assertRaises(NoTie):
                tie_told(COUNT, LANES, wrong)
            with self.assertRaises(NoTie):
                tie_told(COUNT, [(0, 1)], wrong)
            for number in NO_PLACES:
                with self.subTest(wrong=wrong.bit_length(), size=number.bit_length()), self.assertRaises(NoPlace):
                    tie_told(COUNT, [(0, number)], wrong)


class NothingIsChanged(unittest.TestCase):
    def same_after(self, asked, handed):
        before = copy.deepcopy(handed)
        try:
            asked(*handed)
        except LaneError:
            pass
        self.assertEqual(handed, before)

    def test_whatever_is_asked(self):
        unsorted_lanes = [(2, 0), (0, 1), (0, 1), (1, 1), (3, 2), (1, 2)]
        for asked, rest in all_calls():
            for lanes in ([], list(LANES), unsorted_lanes, LANES + [(0, COUNT)], [(-1, 0)] + LANES):
                with self.subTest(asked=asked.__name__, lanes=lanes):
                    self.same_after(asked, (COUNT, lanes) + copy.deepcopy(rest))

    def test_rows_that_are_neither_walk_nor_wall(self):
        for asked in (is_walk, is_shut):
            for row in ([3, 2, 1, 0], [0, 0], [2, -1, 7], [1, 2, 0, 1]):
                self.same_after(asked, (COUNT, list(LANES), row))
                self.same_after(asked, (COUNT, [(0, COUNT)], row))

    def test_refused_numbers(self):
        for asked, places in PLACES:
            for number in (-1, COUNT):
                for at in range(len(places)):
                    self.same_after(asked, (COUNT, list(LANES)) + places[:at] + (number,) + places[at + 1:])
        self.same_after(around, (COUNT, list(LANES), 0, 1, 1))

    def test_an_answer_that_is_changed_changes_no_later_one(self):
        for asked, rest in all_calls():
            try:
                first = asked(COUNT, LANES, *rest)
            except LaneError:
                continue
            kept = copy.deepcopy(first)
            spoil(first)
            with self.subTest(asked=asked.__name__):
                self.assertEqual(asked(COUNT, LANES, *rest), kept)


def spoil(answer):
    """Adds to every list in the answer, however deep it lies."""
    if isinstance(answer, (list, tuple)):
        for inner in answer:
            spoil(inner)
    if isinstance(answer, list):
        answer.append(99)


if __name__ == "__main__":
    unittest.main()
