"""The tree of a row, two trees joined, a tree cut in two.

Joining and cutting walk down from the top, keep the parts that they pass, and make those anew from the bottom up.
Both are loops: a tree may be as deep as its row is long.
"""

from bargerow.errors import NoPlace
from bargerow.trees import AHEAD, BARGE, BEHIND, size_of


def tree_with(ahead, barge, behind):
    return (ahead, barge, behind, size_of(ahead) + 1 + size_of(behind))


def with_ahead(part, ahead):
    return tree_with(ahead, part[BARGE], part[BEHIND])


def with_behind(part, behind):
    return tree_with(part[AHEAD], part[BARGE], behind)


def rank_of(part):
    return part[BARGE][1]


# The row is halved, so the calls within calls stay few, however deep the tree becomes.
def tree_of(row):
    if len(row) == 0:
        return None
    if len(row) == 1:
        return tree_with(None, row[0], None)
    half = len(row) // 2
    return joined(tree_of(row[:half]), tree_of(row[half:]))


def joined(one, other):
    passed = []
    while one is not None and other is not None:
        # Of equal ranks the barge further ahead is first, and all of the one lie ahead of the other.
        one_is_first = rank_of(one) >= rank_of(other)
        if one_is_first:
            passed.append((one, one_is_first))
            one = one[BEHIND]
        else:
            passed.append((other, one_is_first))
            other = other[AHEAD]
    tree = other if one is None else one
    for step in reversed(passed):
        tree = with_behind(step[0], tree) if step[1] else with_ahead(step[0], tree)
    return tree


def cut(tree, place):
    # The words leave the place out: a number with thousands of figures can't be made a text.
    if not 0 <= place <= size_of(tree):
        raise NoPlace("the row has no such place to be cut at")
    fore = []
    aft = []
    part = tree
    still_ahead = place
    while part is not None:
        size_ahead = size_of(part[AHEAD])
        if still_ahead <= size_ahead:
            aft.append(part)
            part = part[AHEAD]
        else:
            fore.append(part)
            still_ahead = still_ahead - size_ahead - 1
            part = part[BEHIND]
    ahead = None
    for part in reversed(fore):
        ahead = with_behind(part, ahead)
    behind = None
    for part in reversed(aft):
        behind = with_ahead(part, behind)
    return (ahead, behind)
