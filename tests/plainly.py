"""What the document's words ask, told as plainly as can be and without the program: the tests hold it against this."""

from itertools import product


def is_walk_by_words(count, lanes, row):
    if not row or any(number not in range(count) for number in row):
        return False
    if any(row.count(number) != 1 for number in row):
        return False
    return all((row[at], row[at + 1]) in lanes for at in range(len(row) - 1))


def is_wall_by_words(count, lanes, row):
    if any(number not in range(count) for number in row):
        return False
    if any(row[at] >= row[at + 1] for at in range(len(row) - 1)):
        return False
    return not any(a in row and b not in row for a, b in lanes)


def reached_pairs(count, lanes):
    pairs = {(place, place) for place in range(count)} | set(lanes)
    for middle, a, b in product(range(count), repeat=3):
        if (a, middle) in pairs and (middle, b) in pairs:
            pairs.add((a, b))
    return pairs


def all_walks(lanes, one, other, passed=()):
    """Every walk from the one to the other, each found by going on wherever a lane leads to a new place."""
    row = list(passed) + [one]
    if one == other:
        return [row]
    ends = {b for a, b in lanes if a == one and b not in row}
    return [found for end in sorted(ends) for found in all_walks(lanes, end, other, row)]


def parts_by_words(count, lanes):
    """The sets of places with a walk from each to each other one, to which no further place could be added."""
    pairs = reached_pairs(count, lanes)
    sets = [frozenset(chosen(range(count), choice)) for choice in range(1, 1 << count)]
    joined_up = [places for places in sets if all(pair in pairs for pair in product(places, repeat=2))]
    return {places for places in joined_up if not any(places < wider for wider in joined_up)}


def rows_of_parts(pairs, last):
    """Every row of parts that ends with the last one and in which a lane leads from each part to the next."""
    longer = [row + [last] for a, b in pairs if b == last for row in rows_of_parts(pairs, a)]
    return [[last]] + longer


def musts_by_words(lanes, start, place):
    """The places that stand in every walk, in the order of one of the walks; None where there is no walk."""
    rows = all_walks(lanes, start, place)
    if not rows:
        return None
    return [passed for passed in rows[0] if all(passed in row for row in rows)]


def there_and_back(ties):
    return [(a, b) for a, b in ties] + [(b, a) for a, b in ties]


def not_touching(lanes, gone):
    return [(a, b) for a, b in lanes if a != gone and b != gone]


def other_ties(ties, number):
    return [tie for at, tie in enumerate(ties) if at != number]


def is_bridge_by_words(count, ties, number):
    return ties[number] not in reached_pairs(count, there_and_back(other_ties(ties, number)))


def neighbours_by_words(count, ties, place):
    return [near for near in range(count) if near != place and ((place, near) in ties or (near, place) in ties)]


def is_cut_by_words(count, ties, place):
    pairs = reached_pairs(count, there_and_back(not_touching(ties, place)))
    return any(pair not in pairs for pair in product(neighbours_by_words(count, ties, place), repeat=2))


def chosen(pairs, choice):
    return [pair for at, pair in enumerate(pairs) if choice >> at & 1]


def small_nets():
    """All nets of three places, and some of four, spread over all of them."""
    for count, step in ((3, 1), (4, 211)):
        pairs = list(product(range(count), repeat=2))
        for choice in range(0, 1 << len(pairs), step):
            yield count, chosen(pairs, choice)


def small_tie_nets():
    """All nets of ties between four places, told now one way round, now the other."""
    pairs = [(a, b) for a, b in product(range(4), repeat=2) if a <= b]
    for choice in range(1 << len(pairs)):
        ties = chosen(pairs, choice)
        yield 4, [(b, a) if (choice + at) % 2 else (a, b) for at, (a, b) in enumerate(ties)]


def wider_nets():
    """Nets of five to seven places, from bare to dense, in mixed order, with pairs twice and to themselves."""
    state = 1
    for at in range(300):
        count = 5 + at % 3
        pairs = []
        for _ in range(at // 3 % (2 * count + 2)):
            state = state * 1103515245 + 12345 & 0x7FFFFFFF
            pairs.append(((state >> 8) % count, (state >> 16) % count))
        yield count, pairs


def check_numbers(test, row):
    """The row is a list of whole numbers, of just those kinds."""
    test.assertIs(type(row), list)
    for number in row:
        test.assertIs(type(number), int)


def check_told(test, count, lanes, one, other, told, word_for_walk="walk"):
    """The answer is of the kind told, and shows that the other is reached from the one, or that it isn't."""
    test.assertIs(type(told), tuple)
    word, row = told
    if (one, other) in reached_pairs(count, lanes):
        test.assertEqual(word, word_for_walk)
        check_walk(test, count, lanes, one, other, row)
    else:
        test.assertEqual(word, "wall")
        check_wall(test, count, lanes, one, other, row)


def check_walk(test, count, lanes, one, other, row):
    check_numbers(test, row)
    test.assertTrue(is_walk_by_words(count, lanes, row), row)
    test.assertEqual((row[0], row[-1]), (one, other))


def check_wall(test, count, lanes, one, other, row):
    check_numbers(test, row)
    test.assertTrue(is_wall_by_words(count, lanes, row), row)
    test.assertIn(one, row)
    test.assertNotIn(other, row)
