"""Points 12 and 13: bridges and cuts, and what shows for each tie and each place whether it is one."""

import unittest
from itertools import chain

from lanemap.errors import NoTie
from lanemap.ties import bridges, cut_places, place_told, tie_told
from lanemap.walks import is_shut, is_walk
from plainly import check_numbers, check_told, check_wall, check_walk, is_bridge_by_words, is_cut_by_words
from plainly import neighbours_by_words, not_touching, other_ties, small_tie_nets, there_and_back, wider_nets

LINE = [(0, 1), (2, 1), (2, 3)]
RING = [(0, 1), (2, 1), (2, 3), (0, 3)]
# Two rings of three that meet in place 2.
TWO_RINGS = [(0, 1), (1, 2), (2, 0), (2, 3), (4, 3), (4, 2)]


def nets():
    return chain(small_tie_nets(), wider_nets())


def check_tie(test, count, ties, number):
    """What is told of the tie shows whether it is a bridge, by the document's words."""
    told = tie_told(count, ties, number)
    others = there_and_back(other_ties(ties, number))
    check_told(test, count, others, ties[number][0], ties[number][1], told, "ring")
    test.assertEqual(told[0] == "wall", is_bridge_by_words(count, ties, number))
    test.assertIs((is_walk if told[0] == "ring" else is_shut)(count, others, told[1]), True)
    return told


def check_place(test, count, ties, place):
    """What is told of the place shows whether it is a cut, by the document's words."""
    told = place_told(count, ties, place)
    test.assertIs(type(told), tuple)
    word, rows = told
    test.assertIs(type(rows), list)
    near = neighbours_by_words(count, ties, place)
    left = there_and_back(not_touching(ties, place))
    if is_cut_by_words(count, ties, place):
        test.assertEqual(word, "wall")
        lacking = [neighbour for neighbour in near if neighbour not in rows]
        test.assertNotEqual(lacking, [])
        check_wall(test, count, left, near[0], lacking[0], rows)
    else:
        test.assertEqual(word, "joined")
        test.assertEqual(len(rows), len(near))
        for neighbour, row in zip(near, rows):
            check_walk(test, count, left, near[0], neighbour, row)
            test.assertNotIn(place, row)
    return told


class Bridges(unittest.TestCase):
    def test_no_ties(self):
        self.assertEqual(bridges(0, []), [])
        self.assertEqual(bridges(3, []), [])

    def test_a_line(self):
        self.assertEqual(bridges(4, LINE), [0, 1, 2])
        self.assertEqual(bridges(4, LINE[::-1]), [0, 1, 2])

    def test_a_ring(self):
        self.assertEqual(bridges(4, RING), [])
        self.assertEqual(bridges(5, TWO_RINGS), [])

    def test_a_tie_between_two_rings(self):
        ties = [(0, 1), (1, 2), (5, 2), (2, 0), (3, 4), (4, 5), (5, 3)]
        self.assertEqual(bridges(6, ties), [2])
        self.assertEqual(bridges(6, ties + [(2, 5)]), [])
        self.assertEqual(bridges(6, ties + [(0, 4)]), [])

    def test_two_ties_between_the_same_two_places(self):
        for ties in ([(0, 1), (0, 1)], [(0, 1), (1, 0)], [(1, 0), (0, 1)], [(1, 0), (1, 0)]):
            with self.subTest(ties=ties):
                self.assertEqual(bridges(2, ties), [])
                self.assertEqual(bridges(3, ties + [(2, 1)]), [2])

    def test_a_tie_from_a_place_to_itself(self):
        self.assertEqual(bridges(1, [(0, 0)]), [])
        self.assertEqual(bridges(3, [(1, 1), (0, 1), (0, 0), (2, 1), (2, 2)]), [1, 3])

    def test_nets(self):
        for count, ties in nets():
            with self.subTest(count=count, ties=ties):
                told = bridges(count, ties)
                check_numbers(self, told)
                due = [number for number in range(len(ties)) if is_bridge_by_words(count, ties, number)]
                self.assertEqual(told, due)


class TieTold(unittest.TestCase):
    def test_a_line(self):
        self.assertEqual(tie_told(4, LINE, 0), ("wall", [0]))
        self.assertEqual(tie_told(4, LINE, 1), ("wall", [2, 3]))
        self.assertEqual(check_tie(self, 4, LINE, 2)[0], "wall")

    def test_a_ring(self):
        self.assertEqual(tie_told(4, RING, 0), ("ring", [0, 3, 2, 1]))
        self.assertEqual(tie_told(4, RING, 1), ("ring", [2, 3, 0, 1]))
        self.assertEqual(tie_told(4, RING, 3), ("ring", [0, 1, 2, 3]))

    def test_two_ties_between_the_same_two_places(self):
        for ties in ([(0, 1), (0, 1)], [(0, 1), (1, 0)], [(1, 0), (0, 1)], [(1, 0), (1, 0)]):
            for number in (0, 1):
                with self.subTest(ties=ties, number=number):
                    self.assertEqual(tie_told(2, ties, number), ("ring", list(ties[number])))

    def test_a_tie_from_a_place_to_itself(self):
        self.assertEqual(tie_told(1, [(0, 0)], 0), ("ring", [0]))
        self.assertEqual(tie_told(3, [(0, 1), (1, 1), (1, 2)], 1), ("ring", [1]))

    def test_no_tie(self):
        for ties in ([], [(0, 0)], LINE, RING):
            for number in (-1, -2, len(ties), len(ties) + 1, -len(ties) - 1, 10 ** 30, -10 ** 30, 10 ** 5000):
                with self.subTest(ties=ties, size=number.bit_length()), self.assertRaises(NoTie):
                    tie_told(4, ties, number)

    def test_no_tie_without_places(self):
        with self.assertRaises(NoTie):
            tie_told(0, [], 0)

    def test_the_first_and_the_last_tie_are_not_refused(self):
        self.assertEqual(tie_told(2, [(1, 0)], 0), ("wall", [1]))
        self.assertEqual(tie_told(4, LINE, len(LINE) - 1)[0], "wall")

    def test_nets(self):
        for count, ties in nets():
            walls = []
            for number in range(len(ties)):
                with self.subTest(count=count, ties=ties, number=number):
                    if check_tie(self, count, ties, number)[0] == "wall":
                        walls.append(number)
            self.assertEqual(bridges(count, ties), walls)


class CutPlaces(unittest.TestCase):
    def test_no_ties(self):
        self.assertEqual(cut_places(0, []), [])
        self.assertEqual(cut_places(3, []), [])

    def test_a_line(self):
        self.assertEqual(cut_places(4, LINE), [1, 2])
        self.assertEqual(cut_places(4, [(3, 0), (0, 2), (1, 2)]), [0, 2])

    def test_a_ring(self):
        self.assertEqual(cut_places(4, RING), [])

    def test_two_rings_that_meet_in_one_place(self):
        self.assertEqual(cut_places(5, TWO_RINGS), [2])
        self.assertEqual(cut_places(5, TWO_RINGS + [(0, 3)]), [])

    def test_the_ends_of_a_bridge_need_be_none(self):
        self.assertEqual(cut_places(2, [(0, 1)]), [])
        self.assertEqual(cut_places(4, [(0, 1), (1, 2), (2, 0), (2, 3)]), [2])

    def test_ties_to_themselves_and_twice(self):
        self.assertEqual(cut_places(2, [(0, 0), (0, 1), (1, 0), (1, 1)]), [])
        self.assertEqual(cut_places(3, [(0, 1), (1, 0), (1, 1), (1, 2), (2, 1)]), [1])

    def test_places_elsewhere_are_no_matter(self):
        self.assertEqual(cut_places(6, RING + [(4, 5)]), [])

    def test_nets(self):
        for count, ties in nets():
            with self.subTest(count=count, ties=ties):
                told = cut_places(count, ties)
                check_numbers(self, told)
                self.assertEqual(told, [place for place in range(count) if is_cut_by_words(count, ties, place)])


class PlaceTold(unittest.TestCase):
    def test_without_neighbours(self):
        self.assertEqual(place_told(1, [], 0), ("joined", []))
        self.assertEqual(place_told(3, [(0, 1)], 2), ("joined", []))

    def test_a_tie_to_itself_makes_no_neighbour(self):
        self.assertEqual(place_told(1, [(0, 0)], 0), ("joined", []))
        self.assertEqual(place_told(3, [(1, 1), (1, 0), (1, 1)], 1), ("joined", [[0]]))

    def test_with_one_neighbour(self):
        self.assertEqual(place_told(2, [(0, 1)], 0), ("joined", [[1]]))
        self.assertEqual(place_told(2, [(0, 1)], 1), ("joined", [[0]]))
        self.assertEqual(place_told(4, LINE, 3), ("joined", [[2]]))

    def test_a_line(self):
        for place, word in enumerate(("joined", "wall", "wall", "joined")):
            self.assertEqual(check_place(self, 4, LINE, place)[0], word)
        self.assertEqual(check_place(self, 3, [(2, 1), (2, 0)], 2)[0], "wall")

    def test_a_ring(self):
        self.assertEqual(place_told(4, RING, 0), ("joined", [[1], [1, 2, 3]]))
        self.assertEqual(place_told(4, RING, 3), ("joined", [[0], [0, 1, 2]]))

    def test_two_rings_that_meet_in_one_place(self):
        self.assertEqual(check_place(self, 5, TWO_RINGS, 2)[0], "wall")
        self.assertEqual(check_place(self, 5, TWO_RINGS, 0), ("joined", [[1], [1, 2]]))

    def test_a_neighbour_joined_twice_stands_once(self):
        self.assertEqual(place_told(2, [(0, 1), (1, 0), (0, 1)], 0), ("joined", [[1]]))
        self.assertEqual(place_told(3, [(0, 2), (2, 0), (1, 0), (1, 2)], 0), ("joined", [[1], [1, 2]]))

    def test_from_the_least_neighbour_to_the_greatest(self):
        ties = [(4, 3), (4, 0), (2, 4), (3, 2), (0, 3), (1, 4), (1, 3)]
        word, rows = check_place(self, 5, ties, 4)
        self.assertEqual([row[0] for row in rows], [0, 0, 0, 0])
        self.assertEqual([row[-1] for row in rows], [0, 1, 2, 3])
        self.assertEqual(rows[0], [0])

    def test_only_one_neighbour_is_cut_off(self):
        self.assertEqual(check_place(self, 4, [(3, 0), (3, 1), (3, 2), (0, 1)], 3)[0], "wall")
        self.assertEqual(check_place(self, 4, [(3, 0), (3, 1), (3, 2), (2, 0)], 3)[0], "wall")

    def test_nets(self):
        for count, ties in nets():
            walls = []
            for place in range(count):
                with self.subTest(count=count, ties=ties, place=place):
                    if check_place(self, count, ties, place)[0] == "wall":
                        walls.append(place)
            self.assertEqual(cut_places(count, ties), walls)


if __name__ == "__main__":
    unittest.main()
