"""Points 6 to 8: the parts and their order, the lanes between them, their depths, and round trips."""

import unittest
from itertools import chain, product

from lanemap.parts import between_parts, deepest, depths, part_numbers, parts, round_trip
from lanemap.walks import is_shut, is_walk, walk
from plainly import check_numbers, check_wall, check_walk, parts_by_words, reached_pairs, rows_of_parts
from plainly import small_nets, wider_nets

RINGS = [(0, 3), (3, 0), (1, 4), (4, 5), (5, 1), (3, 4), (0, 5), (2, 2), (5, 6), (2, 6)]


def nets():
    return chain(small_nets(), wider_nets())


class Parts(unittest.TestCase):
    def held(self, count, lanes):
        told = parts(count, lanes)
        self.assertIs(type(told), list)
        for part in told:
            check_numbers(self, part)
            self.assertEqual(part, sorted(part))
        self.assertEqual(sorted(chain.from_iterable(told)), list(range(count)))
        self.assertEqual({frozenset(part) for part in told}, parts_by_words(count, lanes))
        self.check_order(lanes, told)
        return told

    def check_order(self, lanes, told):
        number_of = {place: number for number, part in enumerate(told) for place in part}
        for a, b in lanes:
            self.assertLessEqual(number_of[a], number_of[b], (a, b))

    def test_no_places(self):
        self.assertEqual(parts(0, []), [])

    def test_no_lanes(self):
        self.assertEqual(parts(1, []), [[0]])
        self.assertEqual(sorted(self.held(4, [])), [[0], [1], [2], [3]])

    def test_one_ring(self):
        for order in ([0, 1, 2, 3], [3, 1, 0, 2], [2, 3, 1, 0]):
            ring = [(order[at - 1], order[at]) for at in range(4)]
            with self.subTest(ring=ring):
                self.assertEqual(parts(4, ring), [[0, 1, 2, 3]])

    def test_several_rings_with_lanes_between(self):
        told = self.held(7, RINGS)
        self.assertEqual(sorted(told), [[0, 3], [1, 4, 5], [2], [6]])
        self.assertLess(told.index([0, 3]), told.index([1, 4, 5]))
        self.assertLess(told.index([1, 4, 5]), told.index([6]))
        self.assertLess(told.index([2]), told.index([6]))

    def test_rings_that_share_a_place_are_one_part(self):
        self.assertEqual(parts(5, [(4, 2), (2, 4), (2, 0), (0, 2), (0, 1), (3, 0)]), [[3], [0, 2, 4], [1]])

    def test_lanes_to_themselves_and_twice(self):
        self.assertEqual(parts(1, [(0, 0), (0, 0)]), [[0]])
        self.assertEqual(parts(3, [(1, 0), (1, 1), (1, 0), (2, 1), (2, 1), (0, 0)]), [[2], [1], [0]])
        self.assertEqual(parts(3, [(1, 0), (0, 1), (1, 0), (2, 2), (2, 0), (2, 0)]), [[2], [0, 1]])

    def test_places_whose_numbers_fall_along_the_lanes(self):
        self.assertEqual(parts(5, [(4, 3), (3, 2), (2, 1), (1, 0)]), [[4], [3], [2], [1], [0]])
        self.assertEqual(parts(6, [(5, 4), (4, 5), (4, 3), (3, 2), (2, 3), (2, 1), (1, 0), (0, 1)]),
                         [[4, 5], [2, 3], [0, 1]])

    def test_places_whose_numbers_rise_along_the_lanes(self):
        self.assertEqual(parts(4, [(2, 3), (1, 2), (0, 1)]), [[0], [1], [2], [3]])

    def test_a_short_and_a_long_way(self):
        self.assertEqual(parts(4, [(3, 0), (3, 2), (2, 1), (1, 0)]), [[3], [2], [1], [0]])

    def test_the_same_answer_twice(self):
        for count, lanes in ((7, RINGS), (5, []), (6, [(5, 0), (4, 1), (3, 2)])):
            self.assertEqual(parts(count, lanes), parts(count, list(lanes)))

    def test_the_same_answer_however_the_lanes_stand_in_the_list(self):
        for count, lanes in nets():
            told = parts(count, lanes)
            for again in (lanes[::-1], lanes + lanes[:2], sorted(lanes), lanes[1:] + lanes[:1]):
                self.assertEqual(parts(count, again), told)

    def test_nets(self):
        for count, lanes in nets():
            with self.subTest(count=count, lanes=lanes):
                for part in self.held(count, lanes):
                    for one, other in product(part, repeat=2):
                        self.assertEqual(walk(count, lanes, one, other)[0], "walk")


class PartNumbers(unittest.TestCase):
    def test_no_places(self):
        self.assertEqual(part_numbers(0, []), [])

    def test_some_parts(self):
        self.assertEqual(part_numbers(1, []), [0])
        self.assertEqual(part_numbers(4, [(3, 2), (2, 0), (0, 2), (0, 1)]), [1, 2, 1, 0])
        self.assertEqual(part_numbers(3, [(0, 1), (1, 2), (2, 0)]), [0, 0, 0])

    def test_they_agree_with_parts(self):
        for count, lanes in nets():
            numbers = part_numbers(count, lanes)
            check_numbers(self, numbers)
            self.assertEqual(len(numbers), count)
            for number, part in enumerate(parts(count, lanes)):
                self.assertEqual([place for place in range(count) if numbers[place] == number], part)


class BetweenParts(unittest.TestCase):
    def test_none(self):
        for count, lanes in ((0, []), (3, []), (1, [(0, 0)]), (3, [(0, 1), (1, 2), (2, 0), (1, 1)])):
            with self.subTest(lanes=lanes):
                self.assertEqual(between_parts(count, lanes), [])

    def test_each_pair_once_from_the_least_to_the_greatest(self):
        lanes = [(1, 0), (2, 0), (2, 1), (1, 0), (3, 2), (2, 3), (3, 0), (3, 1), (0, 0)]
        self.assertEqual(parts(4, lanes), [[2, 3], [1], [0]])
        self.assertEqual(between_parts(4, lanes), [(0, 1), (0, 2), (1, 2)])

    def test_only_where_a_lane_leads_and_not_where_a_walk_does(self):
        self.assertEqual(between_parts(3, [(1, 0), (2, 1)]), [(0, 1), (1, 2)])

    def test_nets(self):
        for count, lanes in nets():
            told = between_parts(count, lanes)
            numbers = part_numbers(count, lanes)
            with self.subTest(count=count, lanes=lanes):
                self.assertIs(type(told), list)
                self.assertTrue(all(type(pair) is tuple for pair in told))
                pairs = {(numbers[a], numbers[b]) for a, b in lanes if numbers[a] != numbers[b]}
                self.assertEqual(told, sorted(pairs))
                self.assertTrue(all(a < b for a, b in told))


class Depths(unittest.TestCase):
    def by_place(self, count, lanes):
        told = depths(count, lanes)
        return [told[number] for number in part_numbers(count, lanes)]

    def test_no_places(self):
        self.assertEqual(depths(0, []), [])
        self.assertEqual(deepest(0, []), [])

    def test_one_where_no_lane_comes_from_another_part(self):
        self.assertEqual(depths(3, []), [1, 1, 1])
        self.assertEqual(depths(3, [(0, 1), (1, 2), (2, 0)]), [1])
        self.assertEqual(depths(2, [(0, 0), (1, 1)]), [1, 1])
        self.assertEqual(self.by_place(4, [(0, 1), (1, 0), (1, 2), (3, 2)]), [1, 1, 2, 1])

    def test_a_part_reached_by_a_short_and_by_a_long_row(self):
        self.assertEqual(self.by_place(4, [(0, 3), (0, 1), (1, 2), (2, 3)]), [1, 2, 3, 4])
        self.assertEqual(self.by_place(4, [(3, 0), (3, 2), (2, 1), (1, 0)]), [4, 3, 2, 1])
        self.assertEqual(self.by_place(6, [(5, 0), (5, 4), (4, 5), (4, 1), (1, 2), (2, 0), (3, 0)]),
                         [4, 2, 3, 1, 1, 1])

    def test_a_part_counts_once_however_many_places_it_has(self):
        self.assertEqual(self.by_place(5, [(0, 1), (1, 2), (2, 0), (2, 3), (3, 4), (4, 3)]), [1, 1, 1, 2, 2])

    def test_deepest(self):
        self.assertEqual(deepest(1, []), [0])
        self.assertEqual(deepest(3, [(2, 1), (1, 0)]), [0, 1, 2])
        self.assertEqual(deepest(4, [(0, 3), (0, 1), (1, 2), (2, 3)]), [0, 1, 2, 3])
        self.assertEqual(len(deepest(3, [])), 1)
        self.assertEqual(len(deepest(4, [(0, 1), (2, 3)])), 2)

    def test_the_deepest_part_need_not_be_the_last(self):
        lanes = [(0, 1), (1, 2), (2, 3), (4, 5), (6, 5)]
        told = deepest(7, lanes)
        self.assertEqual([parts(7, lanes)[number] for number in told], [[0], [1], [2], [3]])

    def test_nets(self):
        for count, lanes in nets():
            with self.subTest(count=count, lanes=lanes):
                told = depths(count, lanes)
                check_numbers(self, told)
                size = len(parts(count, lanes))
                pairs = between_parts(count, lanes)
                self.assertEqual(told, [max(map(len, rows_of_parts(pairs, last))) for last in range(size)])
                row = deepest(count, lanes)
                check_numbers(self, row)
                self.assertEqual(len(row), max(told))
                self.assertTrue(all(pair in pairs for pair in zip(row, row[1:])))
                self.assertIn(row[-1], range(size))


class RoundTrip(unittest.TestCase):
    def held(self, count, lanes, one, other):
        told = round_trip(count, lanes, one, other)
        self.assertIs(type(told), tuple)
        pairs = reached_pairs(count, lanes)
        if (one, other) not in pairs:
            word, row = told
            self.assertEqual(word, "there")
            check_wall(self, count, lanes, one, other, row)
            self.assertIs(is_shut(count, lanes, row), True)
        elif (other, one) not in pairs:
            word, row = told
            self.assertEqual(word, "back")
            check_wall(self, count, lanes, other, one, row)
            self.assertIs(is_shut(count, lanes, row), True)
        else:
            word, there, back = told
            self.assertEqual(word, "round")
            check_walk(self, count, lanes, one, other, there)
            check_walk(self, count, lanes, other, one, back)
            self.assertIs(is_walk(count, lanes, there) and is_walk(count, lanes, back), True)
        return told

    def test_both_walks(self):
        ring = [(0, 1), (1, 2), (2, 3), (3, 0)]
        self.assertEqual(round_trip(4, ring, 0, 1), ("round", [0, 1], [1, 2, 3, 0]))
        self.assertEqual(round_trip(4, ring, 3, 2), ("round", [3, 0, 1, 2], [2, 3]))
        self.assertEqual(round_trip(2, [(0, 1), (1, 0)], 0, 1), ("round", [0, 1], [1, 0]))

    def test_both_walks_may_share_places(self):
        lanes = [(0, 1), (1, 2), (2, 1), (1, 0)]
        self.assertEqual(round_trip(3, lanes, 0, 2), ("round", [0, 1, 2], [2, 1, 0]))

    def test_the_same_place_twice(self):
        for lanes in ([], [(1, 1)], [(0, 1), (1, 0)], [(0, 1), (1, 2), (2, 0)]):
            with self.subTest(lanes=lanes):
                self.assertEqual(round_trip(3, lanes, 1, 1), ("round", [1], [1]))

    def test_a_wall_there(self):
        self.assertEqual(round_trip(3, [(1, 0), (0, 2)], 0, 1), ("there", [0, 2]))

    def test_a_wall_there_where_there_is_no_walk_back_either(self):
        self.assertEqual(self.held(3, [], 0, 1)[0], "there")
        self.assertEqual(self.held(4, [(0, 2), (3, 1)], 3, 0)[0], "there")

    def test_a_wall_back(self):
        self.assertEqual(round_trip(3, [(1, 0), (0, 2)], 1, 0), ("back", [0, 2]))
        self.assertEqual(round_trip(3, [(2, 1), (1, 0)], 2, 0), ("back", [0]))

    def test_nets(self):
        for count, lanes in nets():
            numbers = part_numbers(count, lanes)
            for one, other in product(range(count), repeat=2):
                with self.subTest(count=count, lanes=lanes, one=one, other=other):
                    told = self.held(count, lanes, one, other)
                    self.assertEqual(told[0] == "round", numbers[one] == numbers[other])


if __name__ == "__main__":
    unittest.main()
