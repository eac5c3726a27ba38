"""What the other modules share about places, lanes and ties."""

from lanemap.errors import NoPlace


def are_places(count, numbers):
    return all([0 <= number < count for number in numbers])


# The words leave the number out: Python makes no text of a number of some thousand digits.
def check_places(count, numbers):
    if not are_places(count, numbers):
        raise NoPlace("a number that should be a place is none")


def check_lanes(count, lanes):
    for lane in lanes:
        check_places(count, lane)


def both_ways(ties):
    return ties + [(tie[1], tie[0]) for tie in ties]


def lanes_without(lanes, gone):
    return [lane for lane in lanes if gone not in lane]


def ends_by_place(lanes):
    ends = {}
    for lane in lanes:
        ends.setdefault(lane[0], []).append(lane[1])
    return ends


# For each place that is reached: the place ahead of it in a walk from the start, None for the start.
def reach(lanes, start):
    ends = ends_by_place(lanes)
    ahead = {start: None}
    found = [start]
    at = 0
    # A row of places still to be left, not a call within a call: walks may be longer than calls may be deep.
    while at < len(found):
        place = found[at]
        for end in ends.get(place, []):
            if end not in ahead:
                ahead[end] = place
                found.append(end)
        at += 1
    return ahead


def row_to(ahead, place):
    row = [place]
    while ahead[row[-1]] is not None:
        row.append(ahead[row[-1]])
    return list(reversed(row))


# All that is reached from the one is a wall, so it shows that the other isn't reached.
def walk_or_wall(lanes, one, other):
    ahead = reach(lanes, one)
    if other in ahead:
        return ("walk", row_to(ahead, other))
    return ("wall", sorted(ahead))
