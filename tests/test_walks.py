"""Points 3 to 5 and 11: from any place to any place a walk or a wall, round a place and over ties too."""

import unittest
from itertools import product

from lanemap.walks import around, is_shut, is_walk, joined, walk
from plainly import check_told, not_touching, reached_pairs, small_nets, small_tie_nets, there_and_back


class Walk(unittest.TestCase):
    def held(self, count, lanes, one, other):
        told = walk(count, lanes, one, other)
        check_told(self, count, lanes, one, other, told)
        return told

    def test_from_a_place_to_itself(self):
        for lanes in ([], [(1, 1)], [(0, 1), (1, 2), (2, 0)], [(1, 0), (0, 1)]):
            for place in range(3):
                with self.subTest(lanes=lanes, place=place):
                    self.assertEqual(walk(3, lanes, place, place), ("walk", [place]))

    def test_the_only_walk(self):
        self.assertEqual(walk(4, [(2, 3), (0, 1), (1, 2)], 0, 3), ("walk", [0, 1, 2, 3]))

    def test_a_place_reached_by_several_ways(self):
        lanes = [(0, 1), (0, 2), (1, 3), (2, 3), (3, 4), (1, 4)]
        self.assertEqual(self.held(5, lanes, 0, 4)[0], "walk")
        self.assertEqual(self.held(5, lanes, 0, 3)[0], "walk")

    def test_a_place_that_is_not_reached(self):
        lanes = [(0, 1), (1, 0), (2, 1), (2, 3)]
        self.assertEqual(walk(4, lanes, 0, 2), ("wall", [0, 1]))
        self.assertEqual(self.held(4, lanes, 1, 3)[0], "wall")
        self.assertEqual(walk(4, lanes, 3, 0), ("wall", [3]))

    def test_a_lane_only_the_other_way(self):
        self.assertEqual(walk(2, [(1, 0)], 0, 1), ("wall", [0]))
        self.assertEqual(walk(2, [(1, 0)], 1, 0), ("walk", [1, 0]))

    def test_the_wall_rises_however_the_places_are_reached(self):
        self.assertEqual(walk(5, [(3, 4), (4, 0), (0, 2)], 3, 1), ("wall", [0, 2, 3, 4]))

    def test_lanes_to_themselves_and_twice(self):
        lanes = [(0, 0), (0, 1), (0, 1), (1, 1), (1, 2), (1, 2), (2, 2)]
        self.assertEqual(walk(4, lanes, 0, 2), ("walk", [0, 1, 2]))
        self.assertEqual(walk(4, lanes, 1, 0), ("wall", [1, 2]))
        self.assertEqual(walk(4, lanes, 3, 0), ("wall", [3]))

    def test_rings(self):
        ring = [(place, (place + 1) % 6) for place in range(6)]
        for one, other in product(range(6), repeat=2):
            row = [(one + step) % 6 for step in range((other - one) % 6 + 1)]
            self.assertEqual(walk(6, ring, one, other), ("walk", row))
        two_rings = [(0, 1), (1, 0), (2, 3), (3, 2), (1, 2)]
        self.assertEqual(self.held(4, two_rings, 0, 3), ("walk", [0, 1, 2, 3]))
        self.assertEqual(self.held(4, two_rings, 3, 0)[0], "wall")

    def test_all_pairs_over_small_nets(self):
        for count, lanes in small_nets():
            for one, other in product(range(count), repeat=2):
                with self.subTest(count=count, lanes=lanes, one=one, other=other):
                    word, row = self.held(count, lanes, one, other)
                    self.assertIs((is_walk if word == "walk" else is_shut)(count, lanes, row), True)


class Around(unittest.TestCase):
    def held(self, count, lanes, one, other, gone):
        told = around(count, lanes, one, other, gone)
        check_told(self, count, not_touching(lanes, gone), one, other, told)
        return told

    def test_a_walk_that_does_not_pass_the_place(self):
        lanes = [(0, 1), (1, 4), (0, 2), (2, 3), (3, 4)]
        self.assertEqual(around(5, lanes, 0, 4, 1), ("walk", [0, 2, 3, 4]))
        self.assertEqual(around(5, lanes, 0, 4, 2), ("walk", [0, 1, 4]))
        self.assertEqual(around(5, lanes, 0, 4, 3), ("walk", [0, 1, 4]))

    def test_a_wall_for_the_lanes_that_do_not_touch_it(self):
        lanes = [(0, 1), (1, 0), (1, 2), (2, 3), (3, 2)]
        word, row = self.held(4, lanes, 0, 3, 2)
        self.assertEqual((word, row), ("wall", [0, 1]))
        self.assertIs(is_shut(4, lanes, row), False)
        self.assertIs(is_shut(4, not_touching(lanes, 2), row), True)

    def test_a_place_that_no_lane_touches(self):
        self.assertEqual(around(3, [(0, 1)], 0, 1, 2), ("walk", [0, 1]))
        self.assertEqual(around(3, [(0, 1)], 1, 0, 2), ("wall", [1]))

    def test_the_one_and_the_other_the_same(self):
        for lanes in ([], [(0, 1), (1, 0)], [(0, 0), (1, 1)]):
            self.assertEqual(around(2, lanes, 0, 0, 1), ("walk", [0]))
            self.assertEqual(around(2, lanes, 1, 1, 0), ("walk", [1]))

    def test_all_of_it_over_small_nets(self):
        for count, lanes in small_nets():
            for one, other, gone in product(range(count), repeat=3):
                if gone not in (one, other):
                    with self.subTest(count=count, lanes=lanes, one=one, other=other, gone=gone):
                        word, row = self.held(count, lanes, one, other, gone)
                        if word == "walk":
                            self.assertNotIn(gone, row)
                            self.assertIs(is_walk(count, lanes, row), True)


class Joined(unittest.TestCase):
    def held(self, count, ties, one, other):
        told = joined(count, ties, one, other)
        check_told(self, count, there_and_back(ties), one, other, told)
        return told

    def test_ties_told_either_way_round(self):
        for ties in ([(0, 1), (1, 2)], [(1, 0), (2, 1)], [(0, 1), (2, 1)], [(1, 0), (1, 2)]):
            with self.subTest(ties=ties):
                self.assertEqual(joined(3, ties, 0, 2), ("walk", [0, 1, 2]))
                self.assertEqual(joined(3, ties, 2, 0), ("walk", [2, 1, 0]))

    def test_several_between_the_same_two_places(self):
        ties = [(0, 1), (1, 0), (0, 1), (3, 2), (2, 3)]
        self.assertEqual(joined(4, ties, 0, 1), ("walk", [0, 1]))
        self.assertEqual(joined(4, ties, 3, 2), ("walk", [3, 2]))
        self.assertEqual(joined(4, ties, 0, 2), ("wall", [0, 1]))

    def test_a_tie_from_a_place_to_itself(self):
        self.assertEqual(joined(2, [(0, 0)], 0, 0), ("walk", [0]))
        self.assertEqual(joined(2, [(0, 0)], 0, 1), ("wall", [0]))
        self.assertEqual(joined(2, [(0, 0), (1, 0), (1, 1)], 0, 1), ("walk", [0, 1]))

    def test_from_a_place_to_itself(self):
        self.assertEqual(joined(2, [], 1, 1), ("walk", [1]))
        self.assertEqual(joined(2, [(1, 0)], 1, 1), ("walk", [1]))

    def test_a_wall_that_no_tie_crosses(self):
        ties = [(0, 2), (2, 4), (1, 3), (5, 3)]
        for one, other in ((0, 1), (4, 5), (3, 2), (1, 4)):
            word, row = self.held(6, ties, one, other)
            self.assertEqual(word, "wall")
            for a, b in ties:
                self.assertEqual(a in row, b in row)

    def test_all_pairs_over_small_nets_of_ties(self):
        for count, ties in small_tie_nets():
            for one, other in product(range(count), repeat=2):
                with self.subTest(ties=ties, one=one, other=other):
                    word, row = self.held(count, ties, one, other)
                    lanes = there_and_back(ties)
                    self.assertIs((is_walk if word == "walk" else is_shut)(count, lanes, row), True)


class NeverBoth(unittest.TestCase):
    def test_no_walk_leaves_a_wall(self):
        for count, lanes in small_nets():
            walls = [row for row in rising_rows(count) if is_shut(count, lanes, row)]
            for one, other in reached_pairs(count, lanes):
                for row in walls:
                    self.assertFalse(one in row and other not in row)


def rising_rows(count):
    return [[place for place in range(count) if choice >> place & 1] for choice in range(1 << count)]


if __name__ == "__main__":
    unittest.main()
