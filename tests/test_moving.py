import itertools
import unittest

from bargerow.cutting import cut, joined, tree_of
from bargerow.errors import NoPlace
from bargerow.moving import moved, put, taken
from bargerow.trees import barge_at, greatest, row_of
from tests.rows import (
    DEEP, DOCUMENT_TREE, HUGE, MOST, ROWS, edges, first_place, is_tree_of, moved_row, outside, small_rows,
    tree_by_words,
)

BARGES = [(50, -20), (51, 0), (52, 2), (53, 5), (54, 8), (55, 200), (MOST, MOST), (-MOST, -MOST)]


def legal_moves(places, size):
    """Each way to move a stretch between these places that point 8 allows."""
    for first, end, place in itertools.product(places, repeat=3):
        if first <= end and place <= size - (end - first):
            yield first, end, place


class PutTest(unittest.TestCase):
    def check_put(self, tree, row, place, barge):
        self.assertEqual(put(tree, place, barge), tree_by_words(row[:place] + [barge] + row[place:]))

    def test_each_place(self):
        for name, row in ROWS.items():
            tree = tree_by_words(row)
            for place in range(len(row) + 1):
                for barge in BARGES if len(row) < 100 else BARGES[2:4]:
                    with self.subTest(name, place=place, barge=barge):
                        self.check_put(tree, row, place, barge)

    def test_each_place_of_every_small_row(self):
        for row in small_rows():
            tree = tree_by_words(row)
            for place, rank in itertools.product(range(len(row) + 1), range(-2, 3)):
                self.check_put(tree, row, place, (0, rank))

    def test_into_none(self):
        for barge in BARGES:
            self.assertEqual(put(None, 0, barge), (None, barge, None, 1))
        for place in [-2, -1, 1, 2] + HUGE:
            with self.assertRaises(NoPlace):
                put(None, place, (1, 1))

    def test_the_first_and_the_last_place(self):
        ahead = (None, (7, 1), None, 1)
        last = (None, (9, 5), None, 1)
        self.assertEqual(
            put(DOCUMENT_TREE, 0, (6, 5)), (None, (6, 5), (ahead, (8, 5), last, 3), 4))
        self.assertEqual(
            put(DOCUMENT_TREE, 3, (6, 5)), (ahead, (8, 5), (None, (9, 5), (None, (6, 5), None, 1), 2), 4))

    def test_a_barge_that_lies_there_already(self):
        row = ROWS["same both"]
        for place in range(len(row) + 1):
            self.check_put(tree_by_words(row), row, place, (5, 5))

    def test_any_other_place_is_refused(self):
        for name, row in ROWS.items():
            tree = tree_by_words(row)
            for place in outside(len(row)):
                with self.subTest(name), self.assertRaises(NoPlace):
                    put(tree, place, (1, 1))

    def test_trees_as_deep_as_their_rows_are_long(self):
        for name, make in DEEP.items():
            for count in (100, 101, 150, 300):
                tree, row = make(count)
                for place, rank in itertools.product(edges(count), (-1000, 0, 50, 1000)):
                    with self.subTest(name, count=count, place=place, rank=rank):
                        self.check_put(tree, row, place, (0, rank))

    def test_trees_far_deeper_than_told(self):
        for name, make in DEEP.items():
            tree, row = make(3000)
            for place, rank in itertools.product(edges(3000), (-9000, 0, 1500, 9000)):
                with self.subTest(name, place=place, rank=rank):
                    longer = row[:place] + [(0, rank)] + row[place:]
                    self.assertTrue(is_tree_of(put(tree, place, (0, rank)), longer))


class TakenTest(unittest.TestCase):
    def check_taken(self, tree, row, place):
        self.assertEqual(taken(tree, place), tree_by_words(row[:place] + row[place + 1:]))

    def test_each_place(self):
        for name, row in ROWS.items():
            tree = tree_by_words(row)
            for place in range(len(row)):
                with self.subTest(name, place=place):
                    self.check_taken(tree, row, place)

    def test_each_place_of_every_small_row(self):
        for row in small_rows():
            tree = tree_by_words(row)
            for place in range(len(row)):
                self.check_taken(tree, row, place)

    def test_the_documents_example(self):
        ahead = (None, (7, 1), None, 1)
        last = (None, (9, 5), None, 1)
        self.assertEqual(taken(DOCUMENT_TREE, 0), (None, (8, 5), last, 2))
        self.assertEqual(taken(DOCUMENT_TREE, 1), (ahead, (9, 5), None, 2))
        self.assertEqual(taken(DOCUMENT_TREE, 2), (ahead, (8, 5), None, 2))

    def test_the_only_barge(self):
        for barge in BARGES:
            self.assertIsNone(taken((None, barge, None, 1), 0))

    def test_a_place_where_no_barge_lies_is_refused(self):
        for name, row in ROWS.items():
            tree = tree_by_words(row)
            for place in [len(row)] + outside(len(row)):
                with self.subTest(name), self.assertRaises(NoPlace):
                    taken(tree, place)

    def test_none_has_no_barge(self):
        for place in [-2, -1, 0, 1, 2] + HUGE:
            with self.assertRaises(NoPlace):
                taken(None, place)

    def test_trees_as_deep_as_their_rows_are_long(self):
        for name, make in DEEP.items():
            for count in (100, 101, 150, 300):
                tree, row = make(count)
                for place in edges(count)[:-1]:
                    with self.subTest(name, count=count, place=place):
                        self.check_taken(tree, row, place)

    def test_trees_far_deeper_than_told(self):
        for name, make in DEEP.items():
            tree, row = make(3000)
            for place in edges(3000)[:-1]:
                with self.subTest(name, place=place):
                    self.assertTrue(is_tree_of(taken(tree, place), row[:place] + row[place + 1:]))


class MovedTest(unittest.TestCase):
    def check_moves(self, tree, row, places):
        for first, end, place in legal_moves(places, len(row)):
            if moved(tree, first, end, place) != tree_by_words(moved_row(row, first, end, place)):
                self.fail(f"{len(row)} barges: {first} to {end}, to {place}")

    def test_each_row(self):
        for name, row in ROWS.items():
            places = range(len(row) + 1) if len(row) < 100 else edges(len(row))
            with self.subTest(name):
                self.check_moves(tree_by_words(row), row, places)

    def test_each_move_of_every_small_row(self):
        for row in small_rows():
            self.check_moves(tree_by_words(row), row, range(len(row) + 1))

    def test_the_documents_example(self):
        self.assertEqual(row_of(moved(DOCUMENT_TREE, 0, 1, 1)), [(8, 5), (7, 1), (9, 5)])
        self.assertEqual(row_of(moved(DOCUMENT_TREE, 0, 1, 2)), [(8, 5), (9, 5), (7, 1)])
        self.assertEqual(row_of(moved(DOCUMENT_TREE, 1, 3, 0)), [(8, 5), (9, 5), (7, 1)])
        self.assertEqual(row_of(moved(DOCUMENT_TREE, 2, 3, 0)), [(9, 5), (7, 1), (8, 5)])
        self.assertEqual(
            moved(DOCUMENT_TREE, 2, 3, 0), (None, (9, 5), ((None, (7, 1), None, 1), (8, 5), None, 2), 3))

    def test_a_stretch_of_none_can_be_moved_anywhere(self):
        for name, row in ROWS.items():
            tree = tree_by_words(row)
            for first, place in itertools.product(edges(len(row)), repeat=2):
                with self.subTest(name, first=first, place=place):
                    self.assertEqual(moved(tree, first, first, place), tree)

    def test_a_stretch_of_all_can_be_moved_to_nought_alone(self):
        for name, row in ROWS.items():
            tree = tree_by_words(row)
            with self.subTest(name):
                self.assertEqual(moved(tree, 0, len(row), 0), tree)
            for place in [1, len(row)] + outside(0):
                with self.subTest(name), self.assertRaises(NoPlace):
                    moved(tree, 0, len(row), place)

    def test_to_the_place_where_it_lay(self):
        for name, row in ROWS.items():
            tree = tree_by_words(row)
            for first, end in itertools.combinations_with_replacement(edges(len(row)), 2):
                with self.subTest(name, first=first, end=end):
                    self.assertEqual(moved(tree, first, end, first), tree)

    def test_none_has_the_stretch_of_none_alone(self):
        self.assertIsNone(moved(None, 0, 0, 0))
        places = [-2, -1, 0, 1, 2] + HUGE
        for first, end, place in itertools.product(places, repeat=3):
            if (first, end, place) != (0, 0, 0):
                with self.assertRaises(NoPlace):
                    moved(None, first, end, place)

    def test_a_first_below_nought_or_greater_than_end_is_refused(self):
        for name, row in ROWS.items():
            size = len(row)
            tree = tree_by_words(row)
            for end in edges(size):
                for first in [end + 1, size + 1] + outside(size):
                    with self.subTest(name, end=end), self.assertRaises(NoPlace):
                        moved(tree, first, end, 0)

    def test_an_end_greater_than_the_size_or_below_nought_is_refused(self):
        for name, row in ROWS.items():
            size = len(row)
            tree = tree_by_words(row)
            for end in outside(size):
                for first in edges(size) + [end - 1, end]:
                    with self.subTest(name), self.assertRaises(NoPlace):
                        moved(tree, first, end, 0)

    def test_a_place_below_nought_or_greater_than_how_many_others_there_are_is_refused(self):
        for name, row in ROWS.items():
            size = len(row)
            tree = tree_by_words(row)
            for first, end in itertools.combinations_with_replacement(edges(size), 2):
                others = size - (end - first)
                for place in [others + 1, others + 2] + outside(size):
                    with self.subTest(name, first=first, end=end), self.assertRaises(NoPlace):
                        moved(tree, first, end, place)

    def test_trees_as_deep_as_their_rows_are_long(self):
        for name, make in DEEP.items():
            for count in (100, 101, 150):
                tree, row = make(count)
                with self.subTest(name, count=count):
                    self.check_moves(tree, row, [0, 1, count // 2, count - 1, count])

    def test_trees_far_deeper_than_told(self):
        for name, make in DEEP.items():
            tree, row = make(3000)
            for first, end, place in legal_moves([0, 1, 1500, 2999, 3000], 3000):
                with self.subTest(name, first=first, end=end, place=place):
                    self.assertTrue(is_tree_of(moved(tree, first, end, place), moved_row(row, first, end, place)))


class OneAfterAnotherTest(unittest.TestCase):
    def refuse_all(self, tree):
        size = 0 if tree is None else tree[3]
        for place in (-1, size + 1, MOST, -MOST):
            for ask in (
                lambda: cut(tree, place), lambda: put(tree, place, (1, 1)), lambda: taken(tree, place),
                lambda: moved(tree, place, size, 0), lambda: moved(tree, 0, place, 0),
                lambda: moved(tree, 0, 0, place), lambda: barge_at(tree, place),
                lambda: greatest(tree, place, place + 1),
            ):
                with self.assertRaises(NoPlace):
                    ask()

    def test_moves_with_refused_ones_among_them(self):
        for name, start in ROWS.items():
            row = list(start)
            tree = tree_of(row)
            size = len(row)
            for turn in range(60):
                first = turn * 7 % (size + 1)
                end = turn * 11 % (size + 1)
                place = turn * 5 % (size + 1)
                if first <= end and place <= size - (end - first):
                    tree = moved(tree, first, end, place)
                    row = moved_row(row, first, end, place)
                else:
                    with self.assertRaises(NoPlace):
                        moved(tree, first, end, place)
                if tree != tree_by_words(row):
                    self.fail(f"{name}: turn {turn}")
            self.refuse_all(tree)
            self.assertEqual(tree, tree_by_words(row))

    def test_all_that_is_done_with_refused_ones_among_them(self):
        row = []
        tree = None
        for turn in range(300):
            place = turn * turn * 13 % (len(row) + 1)
            if turn % 5 == 4:
                tree = taken(tree, place % len(row))
                row.pop(place % len(row))
            elif turn % 5 == 3:
                first, end = sorted((place, turn * 17 % (len(row) + 1)))
                to = turn * 3 % (len(row) - (end - first) + 1)
                tree = moved(tree, first, end, to)
                row = moved_row(row, first, end, to)
            else:
                tree = put(tree, place, (turn, turn * 29 % 23 - 11))
                row.insert(place, (turn, turn * 29 % 23 - 11))
            self.refuse_all(tree)
            self.assertEqual(tree, tree_by_words(row))
            self.assertEqual(row_of(tree), row)
            self.assertEqual(greatest(tree, 0, len(row)), first_place(row, 0, len(row)))

    def test_what_is_handed_in_is_as_it_was(self):
        for name, row in ROWS.items():
            tree = tree_by_words(row)
            size = len(row)
            put(tree, size // 2, (1, 1))
            taken(tree, size // 2)
            moved(tree, 0, size // 2, size - size // 2)
            self.refuse_all(tree)
            with self.subTest(name):
                self.assertEqual(tree, tree_by_words(row))


class OneTreeForARowTest(unittest.TestCase):
    def put_in_order(self, row, order):
        """The barges of these places are put one by one, each among those that lie there already."""
        tree = None
        there = []
        for place in order:
            tree = put(tree, sum(1 for other in there if other < place), row[place])
            there.append(place)
        return tree

    def test_put_one_by_one(self):
        for name, row in ROWS.items():
            tree = tree_of(row)
            places = range(len(row))
            scrambled = sorted(places, key=lambda place: (place * 37 % 101, place))
            outwards = sorted(places, key=lambda place: abs(2 * place - len(row)))
            for order in (places, reversed(places), scrambled, outwards):
                with self.subTest(name):
                    self.assertEqual(self.put_in_order(row, order), tree)

    def test_every_order_of_the_small_ones(self):
        for name in ("document", "same number", "same rank", "same both", "below nought", "sixty figures"):
            row = ROWS[name]
            for order in itertools.permutations(range(len(row))):
                with self.subTest(name, order=order):
                    self.assertEqual(self.put_in_order(row, order), tree_of(row))

    def test_cut_and_joined_again(self):
        for name, row in ROWS.items():
            tree = tree_of(row)
            for place in range(len(row) + 1):
                ahead, behind = cut(tree, place)
                with self.subTest(name, place=place):
                    self.assertEqual((ahead, behind), (tree_of(row[:place]), tree_of(row[place:])))
                    self.assertEqual(joined(ahead, behind), tree)

    def test_taken_and_put_again(self):
        for name, row in ROWS.items():
            tree = tree_of(row)
            for place, barge in enumerate(row):
                with self.subTest(name, place=place):
                    self.assertEqual(put(taken(tree, place), place, barge), tree)

    def test_moved_and_moved_back(self):
        for name, row in ROWS.items():
            tree = tree_of(row)
            for first, end, place in legal_moves(edges(len(row)), len(row)):
                away = moved(tree, first, end, place)
                if moved(away, place, place + end - first, first) != tree:
                    self.fail(f"{name}: {first} to {end}, to {place}")


if __name__ == "__main__":
    unittest.main()
