"""A barge put into a row or taken from it, and a stretch moved.

All of it is cutting and joining, and cut refuses each place that isn't as told: nothing is checked twice.
"""

from bargerow.cutting import cut, joined, tree_of


# A pair: the tree of the stretch, and the tree of all the others.
def lifted(tree, first, end):
    at_end = cut(tree, end)
    # The part ahead of end is just end barges long, so this cut refuses a first greater than end.
    at_first = cut(at_end[0], first)
    return (at_first[1], joined(at_first[0], at_end[1]))


def laid(tree, place, stretch):
    parts = cut(tree, place)
    return joined(joined(parts[0], stretch), parts[1])


def put(tree, place, barge):
    return laid(tree, place, tree_of([barge]))


def taken(tree, place):
    return lifted(tree, place, place + 1)[1]


def moved(tree, first, end, place):
    parts = lifted(tree, first, end)
    return laid(parts[1], place, parts[0])
