"""Parts, in which all places reach all others, and the order in which they lie."""

from lanemap.nets import check_lanes, check_places, reach, walk_or_wall


def part_with(reached, place):
    return [other for other in range(len(reached)) if other in reached[place] and place in reached[other]]


# A part that a lane leads to reaches fewer places than the part that the lane comes from: whatever it reaches is
# reached from there too, and the part that the lane comes from isn't among it. So those that reach the most come first.
def parts(count, lanes):
    check_lanes(count, lanes)
    reached = [reach(lanes, place) for place in range(count)]
    around_each = [part_with(reached, place) for place in range(count)]
    each_once = [around_each[place] for place in range(count) if around_each[place][0] == place]
    return sorted(each_once, key=lambda part: len(reached[part[0]]), reverse=True)


def part_numbers(count, lanes):
    told = parts(count, lanes)
    numbers = [None] * count
    for number, part in enumerate(told):
        for place in part:
            numbers[place] = number
    return numbers


def between_parts(count, lanes):
    numbers = part_numbers(count, lanes)
    pairs = [(numbers[lane[0]], numbers[lane[1]]) for lane in lanes]
    return sorted(set([pair for pair in pairs if pair[0] != pair[1]]))


# For each part the longest row that ends with it. The pairs come by their first part, and each leads to a part told
# behind it: so a row is as long as it gets before any other is made from it.
def longest_rows(count, lanes):
    rows = [[number] for number in range(len(parts(count, lanes)))]
    for pair in between_parts(count, lanes):
        if len(rows[pair[1]]) <= len(rows[pair[0]]):
            rows[pair[1]] = rows[pair[0]] + [pair[1]]
    return rows


def depths(count, lanes):
    return [len(row) for row in longest_rows(count, lanes)]


def deepest(count, lanes):
    return max(longest_rows(count, lanes), key=len, default=[])


def round_trip(count, lanes, one, other):
    check_lanes(count, lanes)
    check_places(count, [one, other])
    there = walk_or_wall(lanes, one, other)
    if there[0] == "wall":
        return ("there", there[1])
    back = walk_or_wall(lanes, other, one)
    if back[0] == "wall":
        return ("back", back[1])
    return ("round", there[1], back[1])
