"""Walks and walls: from any place to any place there is one or the other."""

from lanemap.errors import NoPlace
from lanemap.nets import are_places, both_ways, check_lanes, check_places, lanes_without, walk_or_wall


def is_walk(count, lanes, row):
    check_lanes(count, lanes)
    if len(row) == 0 or len(set(row)) < len(row) or not are_places(count, row):
        return False
    steps = list(zip(row, row[1:]))
    return len(set(steps) - set(lanes)) == 0


def is_shut(count, lanes, row):
    check_lanes(count, lanes)
    if row != sorted(set(row)) or not are_places(count, row):
        return False
    inside = dict([(place, True) for place in row])
    leading_out = [lane for lane in lanes if lane[0] in inside and lane[1] not in inside]
    return len(leading_out) == 0


def walk(count, lanes, one, other):
    check_lanes(count, lanes)
    check_places(count, [one, other])
    return walk_or_wall(lanes, one, other)


def around(count, lanes, one, other, gone):
    check_lanes(count, lanes)
    check_places(count, [one, other, gone])
    if gone in (one, other):
        raise NoPlace("a place can't be gone round from itself or to itself")
    return walk_or_wall(lanes_without(lanes, gone), one, other)


def joined(count, ties, one, other):
    check_lanes(count, ties)
    check_places(count, [one, other])
    return walk_or_wall(both_ways(ties), one, other)
