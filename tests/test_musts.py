"""Points 9 to 11: the musts of a place, its leader, and that a place that is no must can be gone round."""

import unittest
from itertools import chain

from lanemap.errors import NoWay
from lanemap.musts import leaders, musts
from lanemap.walks import around, walk
from plainly import all_walks, check_numbers, musts_by_words, not_touching, reached_pairs, small_nets, wider_nets


def nets():
    return chain(small_nets(), wider_nets())


class Musts(unittest.TestCase):
    def test_the_start(self):
        for lanes in ([], [(1, 1)], [(0, 1), (1, 0)], [(1, 2), (2, 0), (0, 1)]):
            with self.subTest(lanes=lanes):
                self.assertEqual(musts(3, lanes, 1, 1), [1])

    def test_a_line(self):
        lanes = [(2, 3), (0, 1), (1, 2)]
        self.assertEqual(musts(4, lanes, 0, 3), [0, 1, 2, 3])
        self.assertEqual(musts(4, lanes, 1, 3), [1, 2, 3])
        self.assertEqual(musts(4, [(3, 1), (1, 2), (2, 0)], 3, 0), [3, 1, 2, 0])

    def test_two_ways_that_part_and_meet_again(self):
        lanes = [(4, 0), (0, 1), (0, 2), (1, 3), (2, 3), (3, 5)]
        self.assertEqual(musts(6, lanes, 4, 5), [4, 0, 3, 5])
        self.assertEqual(musts(6, lanes, 4, 3), [4, 0, 3])
        self.assertEqual(musts(6, lanes, 4, 1), [4, 0, 1])
        self.assertEqual(musts(6, lanes, 4, 2), [4, 0, 2])

    def test_a_short_and_a_long_way(self):
        self.assertEqual(musts(4, [(0, 1), (1, 2), (2, 3), (0, 3)], 0, 3), [0, 3])
        self.assertEqual(musts(5, [(0, 4), (4, 1), (1, 2), (2, 3), (4, 3)], 0, 3), [0, 4, 3])

    def test_rings_on_the_way(self):
        lanes = [(0, 1), (1, 2), (2, 1), (2, 3), (3, 3), (3, 4), (4, 2)]
        self.assertEqual(musts(5, lanes, 0, 4), [0, 1, 2, 3, 4])
        crossing = [(0, 1), (0, 2), (1, 2), (2, 1), (1, 3), (2, 3)]
        self.assertEqual(musts(4, crossing, 0, 3), [0, 3])

    def test_lanes_that_lead_back_to_the_start(self):
        lanes = [(0, 1), (1, 0), (1, 2), (2, 0), (2, 3), (3, 1), (0, 0)]
        self.assertEqual(musts(4, lanes, 0, 3), [0, 1, 2, 3])
        self.assertEqual(musts(4, lanes, 0, 0), [0])
        self.assertEqual(musts(4, lanes, 2, 1), [2, 1])

    def test_lanes_from_places_that_are_not_reached(self):
        self.assertEqual(musts(4, [(0, 1), (1, 2), (3, 2), (3, 1)], 0, 2), [0, 1, 2])

    def test_lanes_twice(self):
        self.assertEqual(musts(3, [(0, 1), (0, 1), (1, 2), (1, 2)], 0, 2), [0, 1, 2])

    def test_no_way(self):
        for count, lanes, start, place in (
            (2, [], 0, 1), (2, [], 1, 0), (2, [(1, 0)], 0, 1), (3, [(0, 1), (1, 0)], 0, 2), (3, [(2, 2)], 1, 2),
        ):
            with self.subTest(lanes=lanes, start=start, place=place), self.assertRaises(NoWay):
                musts(count, lanes, start, place)

    def test_nets(self):
        for count, lanes in nets():
            for place in range(count):
                with self.subTest(count=count, lanes=lanes, place=place):
                    self.held(count, lanes, 0, place)
                    self.held(count, lanes, place, count - 1)

    def held(self, count, lanes, start, place):
        due = musts_by_words(lanes, start, place)
        if due is None:
            self.assertEqual(walk(count, lanes, start, place)[0], "wall")
            with self.assertRaises(NoWay):
                musts(count, lanes, start, place)
            return
        told = musts(count, lanes, start, place)
        check_numbers(self, told)
        self.assertEqual(told, due)
        for row in all_walks(lanes, start, place):
            self.assertEqual([passed for passed in row if passed in told], told)

    def test_each_must_held_against_leaving_it_out(self):
        for count, lanes in nets():
            reached = [place for place in range(count) if (0, place) in reached_pairs(count, lanes)]
            for gone in range(1, count):
                left = reached_pairs(count, not_touching(lanes, gone))
                for place in reached:
                    if place != gone:
                        with self.subTest(count=count, lanes=lanes, place=place, gone=gone):
                            self.assertEqual(gone in musts(count, lanes, 0, place), (0, place) not in left)


class Around(unittest.TestCase):
    def test_what_is_no_must_can_be_gone_round(self):
        for count, lanes in nets():
            for place in range(count):
                if walk(count, lanes, 0, place)[0] == "wall":
                    continue
                told = musts(count, lanes, 0, place)
                for gone in range(count):
                    if gone not in (0, place):
                        with self.subTest(count=count, lanes=lanes, place=place, gone=gone):
                            word = "wall" if gone in told else "walk"
                            self.assertEqual(around(count, lanes, 0, place, gone)[0], word)


class Leaders(unittest.TestCase):
    def test_the_start_and_places_that_are_not_reached(self):
        self.assertEqual(leaders(1, [], 0), [None])
        self.assertEqual(leaders(1, [(0, 0)], 0), [None])
        self.assertEqual(leaders(3, [], 1), [None, None, None])
        self.assertEqual(leaders(4, [(1, 2), (2, 1), (3, 1), (0, 3)], 1), [None, None, 1, None])

    def test_a_line(self):
        self.assertEqual(leaders(4, [(0, 1), (1, 2), (2, 3)], 0), [None, 0, 1, 2])
        self.assertEqual(leaders(4, [(2, 1), (3, 2), (1, 0)], 3), [1, 2, 3, None])
        self.assertEqual(leaders(4, [(0, 1), (1, 2), (2, 3)], 2), [None, None, None, 2])

    def test_two_ways_that_part_and_meet_again(self):
        lanes = [(4, 0), (0, 1), (0, 2), (1, 3), (2, 3), (3, 5)]
        self.assertEqual(leaders(6, lanes, 4), [4, 0, 0, 0, None, 3])

    def test_rings_and_lanes_back_to_the_start(self):
        lanes = [(0, 1), (1, 2), (2, 1), (2, 3), (3, 0), (3, 3)]
        self.assertEqual(leaders(4, lanes, 0), [None, 0, 1, 2])
        crossing = [(0, 1), (0, 2), (1, 2), (2, 1), (1, 3), (2, 3), (3, 0)]
        self.assertEqual(leaders(4, crossing, 0), [None, 0, 0, 0])

    def test_the_leader_need_not_have_a_lane_to_the_place(self):
        lanes = [(0, 5), (5, 1), (5, 2), (1, 3), (2, 4), (3, 4), (4, 3)]
        self.assertEqual(leaders(6, lanes, 0), [None, 5, 5, 5, 5, 0])

    def test_nets(self):
        for count, lanes in nets():
            for start in (0, count - 1):
                told = leaders(count, lanes, start)
                self.assertIs(type(told), list)
                self.assertEqual(len(told), count)
                for place in range(count):
                    due = musts_by_words(lanes, start, place)
                    with self.subTest(count=count, lanes=lanes, start=start, place=place):
                        self.assertEqual(told[place], due[-2] if due and place != start else None)

    def test_the_musts_of_a_place_are_those_of_its_leader_and_the_place(self):
        for count, lanes in nets():
            for place, leader in enumerate(leaders(count, lanes, 0)):
                if leader is not None:
                    with self.subTest(count=count, lanes=lanes, place=place):
                        self.assertEqual(musts(count, lanes, 0, place), musts(count, lanes, 0, leader) + [place])


if __name__ == "__main__":
    unittest.main()
