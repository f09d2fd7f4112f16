"""Trees and rows for the tests, made by the words of the document and not by the program."""

import itertools

MOST = 10 ** 60 - 1
SIXTY_FIGURES = [10 ** 59, MOST, -(10 ** 59), -MOST]
# Any whole number may be handed in as a place, also one too long to be made a text.
HUGE = SIXTY_FIGURES + [10 ** 5000, -(10 ** 5000)]

DOCUMENT_TREE = ((None, (7, 1), None, 1), (8, 5), (None, (9, 5), None, 1), 3)

ROWS = {
    "one": [(4, 4)],
    "document": [(7, 1), (8, 5), (9, 5)],
    "same number": [(3, 1), (3, 9), (3, 4), (3, 7)],
    "same rank": [(1, 6), (2, 6), (3, 6), (4, 6)],
    "same both": [(5, 5), (5, 5), (5, 5)],
    "mixed": [(1, 2), (2, 8), (1, 2), (4, 8), (2, 8), (6, 0), (7, 8), (8, 2)],
    "below nought": [(-1, -9), (-2, -3), (0, -7), (5, -3), (-1, -12)],
    "sixty figures": [(MOST, -MOST), (-MOST, MOST), (0, MOST - 1), (1, MOST), (2, 1 - MOST)],
    "rising": [(number, number) for number in range(100)],
    "falling": [(number, -number) for number in range(100)],
    "to the middle": [(number, min(number, 99 - number)) for number in range(100)],
    "from the middle": [(number, max(number, 99 - number)) for number in range(100)],
}


def small_rows():
    """Every row of up to five barges with three ranks."""
    for length in range(6):
        for ranks in itertools.product((-1, 0, 1), repeat=length):
            yield list(enumerate(ranks))


def outside(size):
    """Places that are not from nought to the size."""
    return list(range(-size - 2, 0)) + [size + 1, size + 2, 2 * size + 3] + HUGE


def edges(size):
    """Places at both ends of a row and within it, all of a short one."""
    return sorted({place for place in (0, 1, 2, size // 2, size // 2 + 1, size - 1, size) if 0 <= place <= size})


def moved_row(row, first, end, place):
    """Point 8."""
    stretch = row[first:end]
    others = row[:first] + row[end:]
    return others[:place] + stretch + others[place:]


def first_place(row, first, end):
    """Point 2: the greatest rank, and of several with it the one furthest ahead."""
    best = max(rank for number, rank in row[first:end])
    return next(place for place in range(first, end) if row[place][1] == best)


def tree_by_words(row):
    """Point 3."""
    if not row:
        return None
    place = first_place(row, 0, len(row))
    return (tree_by_words(row[:place]), row[place], tree_by_words(row[place + 1:]), len(row))


def is_tree_of(tree, row):
    """Points 2 and 3, asked of each part in a loop: Python itself compares no trees far deeper than told."""
    waiting = [(tree, 0, len(row))]
    while waiting:
        part, first, end = waiting.pop()
        if part is None or first == end:
            if part is not None or first != end:
                return False
            continue
        ahead, barge, behind, size = part
        place = first + (0 if ahead is None else ahead[3])
        if size != end - first or not first <= place < end or barge != row[place]:
            return False
        if ahead is not None and ahead[1][1] >= barge[1]:
            return False
        if behind is not None and behind[1][1] > barge[1]:
            return False
        waiting += [(ahead, first, place), (behind, place + 1, end)]
    return True


def depth(tree):
    return 0 if tree is None else 1 + max(depth(tree[0]), depth(tree[2]))


def deep_rising(count):
    """A tree and its row, made without calls within calls, however deep."""
    row = [(number, number) for number in range(count)]
    tree = None
    for barge in row:
        tree = (tree, barge, None, barge[0] + 1)
    return tree, row


def deep_falling(count):
    row = [(number, -number) for number in range(count)]
    tree = None
    for barge in reversed(row):
        tree = (None, barge, tree, count - barge[0])
    return tree, row


def deep_zigzag(count):
    """The first barges lie by turns at the front and at the rear of what is left."""
    row = [(number, max(number, count - 1 - number)) for number in range(count)]
    tree = None
    for size in range(1, count + 1):
        passed = count - size
        if passed % 2 == 0:
            tree = (None, row[passed // 2], tree, size)
        else:
            tree = (tree, row[count - 1 - passed // 2], None, size)
    return tree, row


DEEP = {"rising": deep_rising, "falling": deep_falling, "zigzag": deep_zigzag}
