"""Ties and places that hold the map together: bridges and cuts."""

from lanemap.errors import NoTie
from lanemap.nets import both_ways, check_lanes, check_places, lanes_without, reach, row_to, walk_or_wall


def ring_or_wall(ties, number):
    others = ties[:number] + ties[number + 1:]
    told = walk_or_wall(both_ways(others), ties[number][0], ties[number][1])
    return ("ring" if told[0] == "walk" else "wall", told[1])


# A tie whose ends are joined by ties ahead of it is in a ring. That leaves fewer ties than places to ask about.
def newly_joining(count, ties):
    groups = list(range(count))
    numbers = []
    for number, tie in enumerate(ties):
        kept = groups[tie[0]]
        merged = groups[tie[1]]
        if kept != merged:
            numbers.append(number)
            groups = [kept if group == merged else group for group in groups]
    return numbers


def bridges(count, ties):
    check_lanes(count, ties)
    return [number for number in newly_joining(count, ties) if ring_or_wall(ties, number)[0] == "wall"]


def tie_told(count, ties, number):
    check_lanes(count, ties)
    if not 0 <= number < len(ties):
        raise NoTie("there is no tie of that number")
    return ring_or_wall(ties, number)


def neighbours(ties, place):
    return sorted(set([lane[1] for lane in both_ways(ties) if lane[0] == place and lane[1] != place]))


def walks_or_wall(ties, place):
    near = neighbours(ties, place)
    if len(near) == 0:
        return ("joined", [])
    ahead = reach(both_ways(lanes_without(ties, place)), near[0])
    if all([neighbour in ahead for neighbour in near]):
        return ("joined", [row_to(ahead, neighbour) for neighbour in near])
    return ("wall", sorted(ahead))


def cut_places(count, ties):
    check_lanes(count, ties)
    return [place for place in range(count) if walks_or_wall(ties, place)[0] == "wall"]


def place_told(count, ties, place):
    check_lanes(count, ties)
    check_places(count, [place])
    return walks_or_wall(ties, place)
