"""Musts: the places that every walk from a start must pass."""

from lanemap.errors import NoWay
from lanemap.nets import check_lanes, check_places, lanes_without, reach, row_to


def leaders(count, lanes, start):
    check_lanes(count, lanes)
    check_places(count, [start])
    found = [None] * count
    reached = reach(lanes, start)
    # The places come in the order in which they were reached, a must ahead of those that it is a must of. So of all
    # musts of a place but itself the last one comes last here, and it stays.
    for gone in reached:
        left = reach(lanes_without(lanes, gone), start)
        for place in reached:
            if place not in left and place != gone:
                found[place] = gone
    return found


def musts(count, lanes, start, place):
    check_places(count, [place])
    ahead = leaders(count, lanes, start)
    if place != start and ahead[place] is None:
        raise NoWay("the place isn't reached from the start")
    return row_to(ahead, place)
