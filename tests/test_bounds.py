"""Point 1: a hundred places and a thousand lanes or ties are answered, and so is what lies somewhat beyond."""

import time
import unittest

from lanemap.errors import NoTie, NoWay
from lanemap.musts import leaders, musts
from lanemap.parts import between_parts, deepest, depths, part_numbers, parts, round_trip
from lanemap.ties import bridges, cut_places, place_told, tie_told
from lanemap.walks import around, is_shut, is_walk, joined, walk
from plainly import check_told, check_wall, check_walk, is_wall_by_words, is_walk_by_words, neighbours_by_words
from plainly import not_touching, other_ties, reached_pairs, there_and_back

# Far longer than any call takes here, and far shorter than one that tries all walks.
SOON = 10


def line(count):
    return [(place, place + 1) for place in range(count - 1)]


def ring(count):
    return line(count) + [(count - 1, 0)]


def thousand_lanes():
    return [(at % 100, (at * 37 + at // 100) % 100) for at in range(1000)]


def rings_in_a_row():
    """A thousand lanes between a hundred places: twenty rings of five, with lanes on to the next rings."""
    within = [(5 * at + a, 5 * at + (a + 1) % 5) for at in range(20) for a in range(5)]
    onward = [(5 * at + a, 5 * (at + step) + 4 - a) for step in (1, 2, 3) for at in range(20 - step) for a in range(5)]
    return (within + onward + within + onward + onward + onward)[:1000]


class LongLines(unittest.TestCase):
    # The longer one is longer than Python lets calls stand within calls.
    def test_a_line_of_a_hundred_places_and_one_far_longer(self):
        for count in (100, 101, 3000):
            with self.subTest(count=count):
                lanes = line(count)
                row = list(range(count))
                last = count - 1
                self.assertEqual(walk(count, lanes, 0, last), ("walk", row))
                self.assertEqual(walk(count, lanes, 1, 0), ("wall", row[1:]))
                self.assertEqual(joined(count, lanes, last, 0), ("walk", row[::-1]))
                self.assertEqual(around(count, lanes, 1, last, 0), ("walk", row[1:]))
                self.assertEqual(around(count, lanes, 0, last, 50), ("wall", row[:50]))
                self.assertIs(is_walk(count, lanes, row), True)
                self.assertIs(is_walk(count, lanes, row[::-1]), False)
                self.assertIs(is_shut(count, lanes, row[1:]), True)
                self.assertIs(is_shut(count, lanes, row[:-1]), False)

    def test_parts_and_musts_of_a_line(self):
        for count in (100, 101, 1100):
            with self.subTest(count=count):
                lanes = line(count)
                row = list(range(count))
                last = count - 1
                self.assertEqual(parts(count, lanes), [[place] for place in row])
                self.assertEqual(part_numbers(count, lanes), row)
                self.assertEqual(between_parts(count, lanes), lanes)
                self.assertEqual(depths(count, lanes), [place + 1 for place in row])
                self.assertEqual(deepest(count, lanes), row)
                self.assertEqual(round_trip(count, lanes, 0, last), ("back", [last]))
                self.assertEqual(round_trip(count, lanes, 1, 0), ("there", row[1:]))
                self.assertEqual(leaders(count, lanes, 0), [None] + row[:-1])
                self.assertEqual(musts(count, lanes, 0, last), row)
                with self.assertRaises(NoWay):
                    musts(count, lanes, 1, 0)

    def test_bridges_and_cuts_of_a_line(self):
        for count in (100, 101, 1100):
            with self.subTest(count=count):
                ties = line(count)
                row = list(range(count))
                self.assertEqual(bridges(count, ties), row[:-1])
                self.assertEqual(cut_places(count, ties), row[1:-1])
                self.assertEqual(tie_told(count, ties, 50), ("wall", row[:51]))
                self.assertEqual(place_told(count, ties, 0), ("joined", [[1]]))
                word, wall = place_told(count, ties, 50)
                self.assertEqual(word, "wall")
                check_wall(self, count, there_and_back(not_touching(ties, 50)), 49, 51, wall)
                with self.assertRaises(NoTie):
                    tie_told(count, ties, count - 1)


class LongRings(unittest.TestCase):
    def test_walks(self):
        self.assertEqual(walk(100, ring(100), 1, 0), ("walk", list(range(1, 100)) + [0]))
        self.assertEqual(joined(100, ring(100), 0, 99), ("walk", [0, 99]))

    def test_parts_musts_bridges_and_cuts(self):
        for count in (100, 101, 250):
            with self.subTest(count=count):
                lanes = ring(count)
                row = list(range(count))
                self.assertEqual(parts(count, lanes), [row])
                self.assertEqual(part_numbers(count, lanes), [0] * count)
                self.assertEqual(between_parts(count, lanes), [])
                self.assertEqual(depths(count, lanes), [1])
                self.assertEqual(deepest(count, lanes), [0])
                self.assertEqual(round_trip(count, lanes, 0, 1), ("round", [0, 1], row[1:] + [0]))
                self.assertEqual(leaders(count, lanes, 1), [count - 1, None] + row[1:-1])
                self.assertEqual(musts(count, lanes, 1, 0), row[1:] + [0])
                self.assertEqual(bridges(count, lanes), [])
                self.assertEqual(cut_places(count, lanes), [])
                self.assertEqual(tie_told(count, lanes, 0), ("ring", [0] + row[:0:-1]))
                self.assertEqual(place_told(count, lanes, 0), ("joined", [[1], row[1:]]))


class ManyLanes(unittest.TestCase):
    def test_walks_over_a_thousand_lanes(self):
        lanes = thousand_lanes()
        self.assertEqual(len(lanes), 1000)
        for one, other in ((0, 99), (99, 0), (50, 51), (7, 7)):
            check_told(self, 100, lanes, one, other, walk(100, lanes, one, other))
            check_told(self, 100, there_and_back(lanes), one, other, joined(100, lanes, one, other))
            check_told(self, 100, not_touching(lanes, 3), one, other, around(100, lanes, one, other, 3))

    def test_parts_over_a_thousand_lanes(self):
        lanes = rings_in_a_row()
        self.assertEqual(len(lanes), 1000)
        self.assertEqual(parts(100, lanes), [list(range(5 * at, 5 * at + 5)) for at in range(20)])
        self.assertEqual(part_numbers(100, lanes), [place // 5 for place in range(100)])
        pairs = [(a, b) for a in range(20) for b in range(a + 1, min(a + 4, 20))]
        self.assertEqual(between_parts(100, lanes), pairs)
        self.assertEqual(depths(100, lanes), list(range(1, 21)))
        self.assertEqual(deepest(100, lanes), list(range(20)))
        word, row = round_trip(100, lanes, 3, 97)
        self.assertEqual(word, "back")
        check_wall(self, 100, lanes, 97, 3, row)
        word, there, back = round_trip(100, lanes, 11, 14)
        self.assertEqual(word, "round")
        check_walk(self, 100, lanes, 11, 14, there)
        check_walk(self, 100, lanes, 14, 11, back)

    def test_musts_over_a_thousand_lanes(self):
        for lanes in (thousand_lanes(), rings_in_a_row()):
            told = leaders(100, lanes, 0)
            pairs = reached_pairs(100, lanes)
            reached = [place for place in range(100) if (0, place) in pairs]
            for place in range(100):
                self.assertEqual(told[place] is None, place == 0 or place not in reached)
            passed = {place: musts(100, lanes, 0, place) for place in reached[::9] + [97]}
            for gone in (1, 4, 7, 50, 97):
                left = reached_pairs(100, not_touching(lanes, gone))
                for place in passed:
                    if place != gone:
                        self.assertEqual(gone in passed[place], (0, place) not in left)

    def test_bridges_and_cuts_over_a_thousand_ties(self):
        for ties in (thousand_lanes(), rings_in_a_row(), [(0, place) for place in range(1, 100)] * 10 + line(11)):
            self.assertEqual(len(ties), 1000)
            holding = bridges(100, ties)
            for number in (0, 1, 500, 999):
                told = tie_told(100, ties, number)
                check_told(self, 100, there_and_back(other_ties(ties, number)), *ties[number], told, "ring")
                self.assertEqual(told[0] == "wall", number in holding)
            cuts = cut_places(100, ties)
            for place in (0, 1, 50, 99):
                self.check_place(ties, place, place_told(100, ties, place), place in cuts)

    def check_place(self, ties, place, told, is_cut):
        left = there_and_back(not_touching(ties, place))
        near = neighbours_by_words(100, ties, place)
        if is_cut:
            self.assertEqual(told[0], "wall")
            self.assertTrue(is_wall_by_words(100, left, told[1]))
            self.assertEqual((near[0] in told[1], set(near) <= set(told[1])), (True, False))
        else:
            self.assertEqual(told[0], "joined")
            self.assertEqual([(row[0], row[-1]) for row in told[1]], [(near[0], neighbour) for neighbour in near])
            self.assertTrue(all(is_walk_by_words(100, left, row) for row in told[1]))

    def test_a_star_is_cut_at_its_middle_alone(self):
        star = [(0, place) for place in range(1, 100)]
        self.assertEqual(bridges(100, star), list(range(99)))
        self.assertEqual(bridges(100, star * 10), [])
        self.assertEqual(cut_places(100, star * 10), [0])

    def test_more_than_a_thousand_lanes(self):
        lanes = [(a, b) for a in range(60) for b in range(60)]
        row = list(range(60))
        self.assertEqual(walk(61, lanes, 0, 59)[0], "walk")
        self.assertEqual(walk(61, lanes, 0, 60), ("wall", row))
        self.assertIs(is_shut(61, lanes, row), True)
        self.assertIs(is_walk(61, lanes, row), True)
        self.assertEqual(sorted(parts(61, lanes)), [row, [60]])
        self.assertEqual(leaders(61, lanes, 0), [None] + [0] * 59 + [None])
        self.assertEqual(bridges(61, lanes + [(60, 59)]), [3600])
        self.assertEqual(cut_places(61, lanes + [(60, 59)]), [59])

    def test_one_lane_a_thousand_times(self):
        lanes = [(0, 1)] * 1000
        self.assertEqual(walk(100, lanes, 0, 1), ("walk", [0, 1]))
        self.assertEqual(walk(100, lanes, 1, 0), ("wall", [1]))
        self.assertEqual(joined(100, lanes, 1, 0), ("walk", [1, 0]))
        self.assertEqual(len(parts(100, lanes)), 100)
        self.assertEqual(len(between_parts(100, lanes)), 1)
        self.assertEqual(musts(100, lanes, 0, 1), [0, 1])
        self.assertEqual(bridges(100, lanes), [])
        self.assertEqual(tie_told(100, lanes, 999), ("ring", [0, 1]))
        self.assertEqual(place_told(100, lanes, 1), ("joined", [[0]]))


class Soon(unittest.TestCase):
    def test_each_function(self):
        calls = (
            (is_walk, ([0, 1],)), (is_shut, ([0, 1],)), (walk, (0, 99)), (around, (0, 99, 50)), (joined, (0, 99)),
            (parts, ()), (part_numbers, ()), (between_parts, ()), (depths, ()), (deepest, ()), (round_trip, (0, 99)),
            (leaders, (0,)), (musts, (0, 99)), (bridges, ()), (cut_places, ()), (tie_told, (98,)), (place_told, (50,)),
        )
        for pairs in (line(100), ring(100), thousand_lanes(), rings_in_a_row(), diamonds()):
            for asked, rest in calls:
                with self.subTest(asked=asked.__name__, pairs=len(pairs)):
                    begun = time.monotonic()
                    asked(100, pairs, *rest)
                    self.assertLess(time.monotonic() - begun, SOON)


def diamonds():
    """A row of two ways that part and meet again: so many walks that they can't be tried one by one."""
    pairs = []
    for at in range(0, 99, 3):
        pairs += [(at, at + 1), (at, at + 2), (at + 1, at + 3), (at + 2, at + 3)]
    return pairs


if __name__ == "__main__":
    unittest.main()
