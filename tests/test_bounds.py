"""Point 1: a hundred places and a thousand lanes or ties are answered, and so is what lies somewhat beyond."""

import unittest

from lanemap.walks import around, is_shut, is_walk, joined, walk
from plainly import check_told, not_touching, there_and_back


def line(count):
    return [(place, place + 1) for place in range(count - 1)]


def thousand_lanes():
    return [(at % 100, (at * 37 + at // 100) % 100) for at in range(1000)]


class LongLines(unittest.TestCase):
    # The longer one is longer than Python lets calls stand within calls.
    def test_a_line_of_a_hundred_places_and_one_far_longer(self):
        for count in (100, 101, 3000):
            with self.subTest(count=count):
                lanes = line(count)
                row = list(range(count))
                last = count - 1
                self.assertEqual(walk(count, lanes, 0, last), ("walk", row))
                self.assertEqual(walk(count, lanes, 1, 0), ("wall", row[1:]))
                self.assertEqual(joined(count, lanes, last, 0), ("walk", row[::-1]))
                self.assertEqual(around(count, lanes, 1, last, 0), ("walk", row[1:]))
                self.assertEqual(around(count, lanes, 0, last, 50), ("wall", row[:50]))
                self.assertIs(is_walk(count, lanes, row), True)
                self.assertIs(is_walk(count, lanes, row[::-1]), False)
                self.assertIs(is_shut(count, lanes, row[1:]), True)
                self.assertIs(is_shut(count, lanes, row[:-1]), False)

    def test_a_ring_of_a_hundred_places(self):
        ring = line(100) + [(99, 0)]
        self.assertEqual(walk(100, ring, 1, 0), ("walk", list(range(1, 100)) + [0]))
        self.assertEqual(joined(100, ring, 0, 99), ("walk", [0, 99]))


class ManyLanes(unittest.TestCase):
    def test_a_thousand_lanes(self):
        lanes = thousand_lanes()
        self.assertEqual(len(lanes), 1000)
        for one, other in ((0, 99), (99, 0), (50, 51), (7, 7)):
            check_told(self, 100, lanes, one, other, walk(100, lanes, one, other))
            check_told(self, 100, there_and_back(lanes), one, other, joined(100, lanes, one, other))
            check_told(self, 100, not_touching(lanes, 3), one, other, around(100, lanes, one, other, 3))

    def test_more_than_a_thousand_lanes(self):
        lanes = [(a, b) for a in range(60) for b in range(60)]
        self.assertEqual(walk(61, lanes, 0, 59)[0], "walk")
        self.assertEqual(walk(61, lanes, 0, 60), ("wall", list(range(60))))
        self.assertIs(is_shut(61, lanes, list(range(60))), True)
        self.assertIs(is_walk(61, lanes, list(range(60))), True)

    def test_one_lane_a_thousand_times(self):
        lanes = [(0, 1)] * 1000
        self.assertEqual(walk(100, lanes, 0, 1), ("walk", [0, 1]))
        self.assertEqual(walk(100, lanes, 1, 0), ("wall", [1]))
        self.assertEqual(joined(100, lanes, 1, 0), ("walk", [1, 0]))


if __name__ == "__main__":
    unittest.main()
