"""Points 3 and 4: which rows are walks and which are walls."""

import unittest
from itertools import product

from lanemap.walks import is_shut, is_walk
from plainly import is_wall_by_words, is_walk_by_words, small_nets

LANES = [(0, 1), (1, 2), (2, 0), (2, 3)]


class IsWalk(unittest.TestCase):
    def test_walks(self):
        for row in ([0, 1], [0, 1, 2], [0, 1, 2, 3], [2, 0, 1], [1, 2, 3]):
            with self.subTest(row=row):
                self.assertIs(is_walk(4, LANES, row), True)

    def test_a_single_place_needs_no_lane(self):
        for place in range(4):
            self.assertIs(is_walk(4, [], [place]), True)
        self.assertIs(is_walk(1, [(0, 0)], [0]), True)

    def test_the_empty_row_is_none(self):
        self.assertIs(is_walk(4, LANES, []), False)
        self.assertIs(is_walk(0, [], []), False)

    def test_a_place_twice(self):
        for row in ([0, 1, 2, 0], [1, 2, 0, 1, 2], [0, 1, 2, 0, 1]):
            with self.subTest(row=row):
                self.assertIs(is_walk(4, LANES, row), False)
        self.assertIs(is_walk(2, [(0, 0), (0, 1)], [0, 0]), False)
        self.assertIs(is_walk(2, [(0, 0), (0, 1)], [0, 0, 1]), False)

    def test_two_places_without_a_lane_between(self):
        for row in ([0, 3], [0, 1, 3], [1, 3, 2]):
            with self.subTest(row=row):
                self.assertIs(is_walk(4, LANES, row), False)

    def test_a_lane_only_the_other_way(self):
        for row in ([1, 0], [3, 2], [0, 1, 2, 3][::-1], [0, 2]):
            with self.subTest(row=row):
                self.assertIs(is_walk(4, LANES, row), False)

    def test_numbers_that_are_no_places(self):
        full = list(product(range(4), repeat=2))
        for number in (-1, -2, -4, -5, 4, 5, 10 ** 30, -10 ** 30, 10 ** 5000):
            for row in ([number], [number, 0], [0, number], [0, number, 1], [1, 2, number]):
                for lanes in ([], LANES, full):
                    with self.subTest(at=row.index(number), size=number.bit_length()):
                        self.assertIs(is_walk(4, lanes, row), False)
        self.assertIs(is_walk(0, [], [0]), False)
        self.assertIs(is_walk(0, [], [-1]), False)

    def test_lanes_more_than_once_and_to_themselves(self):
        self.assertIs(is_walk(3, [(0, 1), (1, 1), (0, 1), (1, 2), (1, 2)], [0, 1, 2]), True)

    def test_all_rows_over_small_nets(self):
        rows = [list(row) for size in range(4) for row in product(range(-2, 4), repeat=size)]
        rows += [list(row) for row in product(range(3), repeat=4)]
        for count, lanes in small_nets():
            for row in rows:
                if is_walk(count, lanes, row) is not is_walk_by_words(count, lanes, row):
                    self.fail(f"is_walk({count}, {lanes}, {row})")


class IsShut(unittest.TestCase):
    def test_walls(self):
        for row in ([3], [0, 1, 2, 3]):
            with self.subTest(row=row):
                self.assertIs(is_shut(4, LANES, row), True)
        self.assertIs(is_shut(4, [(0, 2), (2, 0), (1, 3)], [0, 2]), True)

    def test_the_empty_list_is_one(self):
        self.assertIs(is_shut(4, LANES, []), True)
        self.assertIs(is_shut(0, [], []), True)

    def test_all_places_are_one(self):
        for count in range(1, 5):
            full = list(product(range(count), repeat=2))
            self.assertIs(is_shut(count, full, list(range(count))), True)

    def test_a_row_that_does_not_rise(self):
        for row in ([1, 0], [0, 2, 1], [3, 2, 1, 0], [1, 2, 3, 0]):
            with self.subTest(row=row):
                self.assertIs(is_shut(4, [], row), False)
                self.assertIs(is_shut(4, [], sorted(row)), True)

    def test_a_place_twice(self):
        for row in ([0, 0], [0, 1, 1], [0, 0, 1], [0, 1, 2, 2, 3]):
            with self.subTest(row=row):
                self.assertIs(is_shut(4, [], row), False)

    def test_numbers_that_are_no_places(self):
        for number in (-1, -2, -4, -5, 4, 5, 10 ** 30, -10 ** 30, 10 ** 5000):
            for places in ([], [0], [0, 1, 2, 3]):
                for lanes in ([], LANES):
                    with self.subTest(size=number.bit_length(), places=places):
                        self.assertIs(is_shut(4, lanes, sorted(places + [number])), False)
        self.assertIs(is_shut(0, [], [0]), False)
        self.assertIs(is_shut(0, [], [-1]), False)

    def test_a_lane_that_leads_out(self):
        for row in ([0], [0, 1], [0, 1, 2], [2, 3]):
            with self.subTest(row=row):
                self.assertIs(is_shut(4, LANES, row), False)
        self.assertIs(is_shut(2, [(0, 0), (0, 1)], [0]), False)

    def test_a_lane_that_leads_in_is_no_matter(self):
        self.assertIs(is_shut(3, [(0, 1), (2, 1)], [1]), True)
        self.assertIs(is_shut(3, [(0, 1), (2, 1), (1, 1)], [1]), True)

    def test_all_rows_over_small_nets(self):
        rows = [list(row) for size in range(4) for row in product(range(-2, 4), repeat=size)]
        rows.append([0, 1, 2, 3])
        for count, lanes in small_nets():
            for row in rows:
                if is_shut(count, lanes, row) is not is_wall_by_words(count, lanes, row):
                    self.fail(f"is_shut({count}, {lanes}, {row})")


if __name__ == "__main__":
    unittest.main()
