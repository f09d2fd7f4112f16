import itertools
import unittest

from bargerow.errors import NoPlace
from bargerow.trees import barge_at, greatest, row_of
from tests.rows import (
    DEEP, DOCUMENT_TREE, HUGE, ROWS, deep_falling, deep_rising, depth, first_place, is_tree_of, small_rows,
    tree_by_words,
)


class TestsOwnTreesTest(unittest.TestCase):
    def test_the_documents_example(self):
        self.assertEqual(tree_by_words(ROWS["document"]), DOCUMENT_TREE)

    def test_the_deep_trees_are_as_deep_as_their_rows_are_long(self):
        for name in ("rising", "falling"):
            self.assertEqual(depth(tree_by_words(ROWS[name])), 100)
        for name, make in DEEP.items():
            for count in (1, 2, 3, 99, 100, 300):
                tree, row = make(count)
                with self.subTest(name, count=count):
                    self.assertEqual(tree, tree_by_words(row))
                    self.assertEqual(depth(tree), count)

    def test_is_tree_of_tells_the_tree_of_a_row_from_all_others(self):
        rows = list(small_rows())
        trees = [tree_by_words(row) for row in rows]
        for row, (number, tree) in itertools.product(rows, enumerate(trees)):
            if is_tree_of(tree, row) != (row == rows[number]):
                self.fail(f"{tree} and {row}")

    def test_is_tree_of_tells_wrong_trees(self):
        wrong = [
            ((None, (7, 1), None, 1), (8, 5), (None, (9, 5), None, 1), 2),
            ((None, (7, 1), None, 2), (8, 5), (None, (9, 5), None, 1), 3),
            (((None, (7, 1), None, 1), (8, 5), None, 2), (9, 5), None, 3),
            (None, (7, 1), (None, (8, 5), (None, (9, 5), None, 1), 2), 3),
        ]
        for tree in wrong:
            with self.subTest(tree):
                self.assertFalse(is_tree_of(tree, ROWS["document"]))


class RowOfTest(unittest.TestCase):
    def test_none_is_the_tree_of_the_empty_row(self):
        self.assertEqual(row_of(None), [])

    def test_one_barge(self):
        self.assertEqual(row_of((None, (4, -2), None, 1)), [(4, -2)])

    def test_the_documents_example(self):
        self.assertEqual(row_of(DOCUMENT_TREE), [(7, 1), (8, 5), (9, 5)])

    def test_the_row_of_each_tree(self):
        for name, row in ROWS.items():
            with self.subTest(name):
                self.assertEqual(row_of(tree_by_words(row)), row)

    def test_every_small_row(self):
        for row in small_rows():
            self.assertEqual(row_of(tree_by_words(row)), row)

    def test_trees_far_deeper_than_told(self):
        for make in DEEP.values():
            tree, row = make(3000)
            self.assertTrue(row_of(tree) == row)

    def test_the_row_is_a_list_of_its_own(self):
        for tree in (None, DOCUMENT_TREE):
            row = row_of(tree)
            self.assertIs(type(row), list)
            row.append((0, 0))
            self.assertEqual(row_of(tree), row[:-1])


class BargeAtTest(unittest.TestCase):
    def test_each_place(self):
        for name, row in ROWS.items():
            tree = tree_by_words(row)
            for place, barge in enumerate(row):
                with self.subTest(name, place=place):
                    self.assertEqual(barge_at(tree, place), barge)

    def test_each_place_of_every_small_row(self):
        for row in small_rows():
            tree = tree_by_words(row)
            self.assertEqual([barge_at(tree, place) for place in range(len(row))], row)

    def test_the_documents_example(self):
        self.assertEqual(barge_at(DOCUMENT_TREE, 0), (7, 1))
        self.assertEqual(barge_at(DOCUMENT_TREE, 2), (9, 5))

    def test_trees_far_deeper_than_told(self):
        for make in DEEP.values():
            tree, row = make(3000)
            for place in (0, 1, 1500, 2999):
                self.assertEqual(barge_at(tree, place), row[place])

    def test_a_place_where_no_barge_lies_is_refused(self):
        for name, row in ROWS.items():
            tree = tree_by_words(row)
            for place in [-len(row), -2, -1, len(row), len(row) + 1, len(row) + 7] + HUGE:
                with self.subTest(name), self.assertRaises(NoPlace):
                    barge_at(tree, place)

    def test_none_has_no_place(self):
        for place in [-2, -1, 0, 1, 2] + HUGE:
            with self.assertRaises(NoPlace):
                barge_at(None, place)


class GreatestTest(unittest.TestCase):
    def test_each_stretch(self):
        for name, row in ROWS.items():
            tree = tree_by_words(row)
            for first, end in itertools.combinations(range(len(row) + 1), 2):
                place = greatest(tree, first, end)
                if place != first_place(row, first, end):
                    self.fail(f"{name}: {first} to {end}: {place}")

    def test_each_stretch_of_every_small_row(self):
        for row in small_rows():
            tree = tree_by_words(row)
            for first, end in itertools.combinations(range(len(row) + 1), 2):
                self.assertEqual(greatest(tree, first, end), first_place(row, first, end))

    def test_one_barge(self):
        row = ROWS["mixed"]
        tree = tree_by_words(row)
        for place in range(len(row)):
            self.assertEqual(greatest(tree, place, place + 1), place)

    def test_of_several_with_the_greatest_rank_the_one_furthest_ahead(self):
        tree = tree_by_words(ROWS["mixed"])
        self.assertEqual(greatest(tree, 0, 8), 1)
        self.assertEqual(greatest(tree, 2, 8), 3)
        self.assertEqual(greatest(tree, 4, 7), 4)
        self.assertEqual(greatest(tree, 5, 8), 6)
        self.assertEqual(greatest(DOCUMENT_TREE, 0, 3), 1)
        self.assertEqual(greatest(tree_by_words(ROWS["same both"]), 1, 3), 1)

    def test_stretches_at_either_end_and_within(self):
        tree = tree_by_words(ROWS["below nought"])
        self.assertEqual(greatest(tree, 0, 5), 1)
        self.assertEqual(greatest(tree, 0, 1), 0)
        self.assertEqual(greatest(tree, 2, 5), 3)
        self.assertEqual(greatest(tree, 2, 3), 2)
        self.assertEqual(greatest(tree, 4, 5), 4)

    def test_ranks_of_sixty_figures(self):
        tree = tree_by_words(ROWS["sixty figures"])
        self.assertEqual(greatest(tree, 0, 5), 1)
        self.assertEqual(greatest(tree, 2, 4), 3)
        self.assertEqual(greatest(tree, 2, 3), 2)

    def test_trees_far_deeper_than_told(self):
        tree = deep_rising(3000)[0]
        self.assertEqual(greatest(tree, 0, 3000), 2999)
        self.assertEqual(greatest(tree, 0, 2), 1)
        tree = deep_falling(3000)[0]
        self.assertEqual(greatest(tree, 0, 3000), 0)
        self.assertEqual(greatest(tree, 2998, 3000), 2998)

    def test_the_place_is_a_whole_number(self):
        self.assertIs(type(greatest(DOCUMENT_TREE, 0, 1)), int)

    def test_a_stretch_that_is_not_as_told_is_refused(self):
        for name, row in ROWS.items():
            size = len(row)
            tree = tree_by_words(row)
            stretches = [(-1, size), (-1, 1), (-2, -1), (-size, size), (0, size + 1), (size - 1, size + 1),
                         (size, size + 1), (size + 1, size + 2), (size, size - 1), (1, 0), (0, -1), (size + 1, size)]
            stretches += [(place, place) for place in range(-1, size + 2)]
            for huge in HUGE:
                stretches += [(huge, size), (0, huge), (huge, huge), (huge, huge + 1)]
            for first, end in stretches:
                with self.subTest(name), self.assertRaises(NoPlace):
                    greatest(tree, first, end)

    def test_none_has_no_stretch(self):
        places = [-2, -1, 0, 1, 2] + HUGE
        for first, end in itertools.product(places, repeat=2):
            with self.assertRaises(NoPlace):
                greatest(None, first, end)


class NothingIsChangedTest(unittest.TestCase):
    def test_what_is_handed_in_is_as_it_was(self):
        for name, row in ROWS.items():
            tree = tree_by_words(row)
            row_of(tree)
            barge_at(tree, len(row) - 1)
            greatest(tree, 0, len(row))
            with self.subTest(name):
                self.assertEqual(tree, tree_by_words(row))

    def test_after_a_refusal_too(self):
        for name, row in ROWS.items():
            tree = tree_by_words(row)
            for place in (-1, len(row)):
                with self.assertRaises(NoPlace):
                    barge_at(tree, place)
                with self.assertRaises(NoPlace):
                    greatest(tree, place, place + 1)
            with self.subTest(name):
                self.assertEqual(tree, tree_by_words(row))
                self.assertEqual(row_of(tree), row)


if __name__ == "__main__":
    unittest.main()
