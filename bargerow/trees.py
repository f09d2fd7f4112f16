"""What can be asked of a tree: its row, the barge at a place, the first barge of a stretch.

A tree is None or a tuple (ahead, barge, behind, size).
"""

from bargerow.errors import NoPlace

AHEAD = 0
BARGE = 1
BEHIND = 2
SIZE = 3


def size_of(tree):
    if tree is None:
        return 0
    return tree[SIZE]


# A tree may be as deep as its row is long, so each walk is a loop: no depth is too great for it.
def row_of(tree):
    row = []
    waiting = []
    part = tree
    while part is not None or len(waiting) > 0:
        if part is not None:
            waiting.append(part)
            part = part[AHEAD]
        else:
            part = waiting.pop()
            row.append(part[BARGE])
            part = part[BEHIND]
    return row


# The first barge of a part of the row is the first one of every stretch of that part it lies in:
# so the walk down from the top ends at the first barge that it meets within the stretch.
def first_in(tree, first, end):
    # The words leave the places out: a number with thousands of figures can't be made a text.
    if not 0 <= first < end <= size_of(tree):
        raise NoPlace("no barge lies there")
    part = tree
    passed = 0
    while True:
        place = passed + size_of(part[AHEAD])
        if end <= place:
            part = part[AHEAD]
        elif place < first:
            passed = place + 1
            part = part[BEHIND]
        else:
            return (place, part[BARGE])


# A barge is the first one of the stretch that holds it alone.
def barge_at(tree, place):
    return first_in(tree, place, place + 1)[1]


def greatest(tree, first, end):
    return first_in(tree, first, end)[0]
