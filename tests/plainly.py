"""What the document's words ask, told as plainly as can be and without the program: the tests hold it against this."""

from itertools import product


def is_walk_by_words(count, lanes, row):
    if not row or any(number not in range(count) for number in row):
        return False
    if any(row.count(number) != 1 for number in row):
        return False
    return all((row[at], row[at + 1]) in lanes for at in range(len(row) - 1))


def is_wall_by_words(count, lanes, row):
    if any(number not in range(count) for number in row):
        return False
    if any(row[at] >= row[at + 1] for at in range(len(row) - 1)):
        return False
    return not any(a in row and b not in row for a, b in lanes)


def reached_pairs(count, lanes):
    pairs = {(place, place) for place in range(count)} | set(lanes)
    for middle, a, b in product(range(count), repeat=3):
        if (a, middle) in pairs and (middle, b) in pairs:
            pairs.add((a, b))
    return pairs


def there_and_back(ties):
    return [(a, b) for a, b in ties] + [(b, a) for a, b in ties]


def not_touching(lanes, gone):
    return [(a, b) for a, b in lanes if a != gone and b != gone]


def chosen(pairs, choice):
    return [pair for at, pair in enumerate(pairs) if choice >> at & 1]


def small_nets():
    """All nets of three places, and some of four, spread over all of them."""
    for count, step in ((3, 1), (4, 211)):
        pairs = list(product(range(count), repeat=2))
        for choice in range(0, 1 << len(pairs), step):
            yield count, chosen(pairs, choice)


def small_tie_nets():
    """All nets of ties between four places, told now one way round, now the other."""
    pairs = [(a, b) for a, b in product(range(4), repeat=2) if a <= b]
    for choice in range(1 << len(pairs)):
        ties = chosen(pairs, choice)
        yield 4, [(b, a) if (choice + at) % 2 else (a, b) for at, (a, b) in enumerate(ties)]


def check_told(test, count, lanes, one, other, told):
    """The answer is of the kind told, and shows that the other is reached from the one, or that it isn't."""
    test.assertIs(type(told), tuple)
    word, row = told
    test.assertIs(type(row), list)
    if (one, other) in reached_pairs(count, lanes):
        test.assertEqual(word, "walk")
        test.assertTrue(is_walk_by_words(count, lanes, row), row)
        test.assertEqual((row[0], row[-1]), (one, other))
    else:
        test.assertEqual(word, "wall")
        test.assertTrue(is_wall_by_words(count, lanes, row), row)
        test.assertIn(one, row)
        test.assertNotIn(other, row)
