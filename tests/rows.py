"""Trees and rows for the tests, made by the words of the document and not by the program."""

MOST = 10 ** 60 - 1
SIXTY_FIGURES = [10 ** 59, MOST, -(10 ** 59), -MOST]

ROWS = {
    "one": [(4, 4)],
    "document": [(7, 1), (8, 5), (9, 5)],
    "same number": [(3, 1), (3, 9), (3, 4), (3, 7)],
    "same rank": [(1, 6), (2, 6), (3, 6), (4, 6)],
    "same both": [(5, 5), (5, 5), (5, 5)],
    "mixed": [(1, 2), (2, 8), (1, 2), (4, 8), (2, 8), (6, 0), (7, 8), (8, 2)],
    "below nought": [(-1, -9), (-2, -3), (0, -7), (5, -3), (-1, -12)],
    "sixty figures": [(MOST, -MOST), (-MOST, MOST), (0, MOST - 1), (1, MOST), (2, 1 - MOST)],
    "rising": [(number, number) for number in range(100)],
    "falling": [(number, -number) for number in range(100)],
    "to the middle": [(number, min(number, 99 - number)) for number in range(100)],
    "from the middle": [(number, max(number, 99 - number)) for number in range(100)],
}


def first_place(row, first, end):
    """Point 2: the greatest rank, and of several with it the one furthest ahead."""
    best = max(rank for number, rank in row[first:end])
    return next(place for place in range(first, end) if row[place][1] == best)


def tree_by_words(row):
    """Point 3."""
    if not row:
        return None
    place = first_place(row, 0, len(row))
    return (tree_by_words(row[:place]), row[place], tree_by_words(row[place + 1:]), len(row))


def depth(tree):
    return 0 if tree is None else 1 + max(depth(tree[0]), depth(tree[2]))


def deep_rising(count):
    """A tree and its row, made without calls within calls, however deep."""
    row = [(number, number) for number in range(count)]
    tree = None
    for barge in row:
        tree = (tree, barge, None, barge[0] + 1)
    return tree, row


def deep_falling(count):
    row = [(number, -number) for number in range(count)]
    tree = None
    for barge in reversed(row):
        tree = (None, barge, tree, count - barge[0])
    return tree, row
