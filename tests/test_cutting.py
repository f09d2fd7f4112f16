import itertools
import unittest

from bargerow.cutting import cut, joined, tree_of
from bargerow.errors import NoPlace
from bargerow.trees import row_of
from tests.rows import (
    DEEP, DOCUMENT_TREE, HUGE, MOST, ROWS, depth, edges, is_tree_of, outside, small_rows, tree_by_words,
)


def parts_of(tree):
    if tree is None:
        return []
    return parts_of(tree[0]) + [tree] + parts_of(tree[2])


class TreeOfTest(unittest.TestCase):
    def test_the_empty_row(self):
        self.assertIsNone(tree_of([]))

    def test_one_barge(self):
        self.assertEqual(tree_of([(4, -2)]), (None, (4, -2), None, 1))

    def test_the_documents_example(self):
        self.assertEqual(tree_of([(7, 1), (8, 5), (9, 5)]), DOCUMENT_TREE)

    def test_of_several_with_the_greatest_rank_the_one_furthest_ahead_is_first(self):
        self.assertEqual(
            tree_of([(1, 6), (2, 6), (3, 6)]), (None, (1, 6), (None, (2, 6), (None, (3, 6), None, 1), 2), 3))
        self.assertEqual(
            tree_of([(5, 5), (5, 5), (5, 4)]), (None, (5, 5), (None, (5, 5), (None, (5, 4), None, 1), 2), 3))

    def test_the_number_does_not_count(self):
        self.assertEqual(tree_of([(9, 1), (1, 2)]), ((None, (9, 1), None, 1), (1, 2), None, 2))
        self.assertEqual(tree_of([(3, 2), (3, 1)]), (None, (3, 2), (None, (3, 1), None, 1), 2))

    def test_ranks_below_nought_and_of_sixty_figures(self):
        self.assertEqual(tree_of([(1, -2), (2, -1)]), ((None, (1, -2), None, 1), (2, -1), None, 2))
        self.assertEqual(
            tree_of([(MOST, MOST - 1), (-MOST, MOST), (0, -MOST)]),
            ((None, (MOST, MOST - 1), None, 1), (-MOST, MOST), (None, (0, -MOST), None, 1), 3))

    def test_each_row(self):
        for name, row in ROWS.items():
            with self.subTest(name):
                self.assertEqual(tree_of(row), tree_by_words(row))
                self.assertEqual(row_of(tree_of(row)), row)

    def test_every_small_row(self):
        for row in small_rows():
            self.assertEqual(tree_of(row), tree_by_words(row))

    def test_the_kinds(self):
        for part in parts_of(tree_of(ROWS["mixed"])):
            self.assertIs(type(part), tuple)
            self.assertIs(type(part[1]), tuple)
            self.assertIs(type(part[3]), int)

    def test_trees_as_deep_as_their_rows_are_long(self):
        for name, make in DEEP.items():
            for count in (100, 101, 150, 300):
                tree, row = make(count)
                with self.subTest(name, count=count):
                    self.assertEqual(tree_of(row), tree)
                    self.assertEqual(depth(tree_of(row)), count)

    def test_trees_far_deeper_than_told(self):
        for name, make in DEEP.items():
            row = make(3000)[1]
            with self.subTest(name):
                self.assertTrue(is_tree_of(tree_of(row), row))

    def test_the_row_is_as_it_was(self):
        for name, row in list(ROWS.items()) + [("none", [])]:
            handed = list(row)
            tree_of(handed)
            with self.subTest(name):
                self.assertEqual(handed, row)

    def test_the_tree_keeps_nothing_of_the_list(self):
        handed = list(ROWS["mixed"])
        tree = tree_of(handed)
        handed.reverse()
        handed.append((0, 99))
        self.assertEqual(tree, tree_by_words(ROWS["mixed"]))


class JoinedTest(unittest.TestCase):
    def test_none_on_either_side_and_on_both(self):
        self.assertIsNone(joined(None, None))
        for name, row in ROWS.items():
            tree = tree_by_words(row)
            with self.subTest(name):
                self.assertEqual(joined(tree, None), tree)
                self.assertEqual(joined(None, tree), tree)

    def test_each_row_out_of_any_two(self):
        for name, row in ROWS.items():
            whole = tree_by_words(row)
            for place in range(len(row) + 1):
                with self.subTest(name, place=place):
                    self.assertEqual(joined(tree_by_words(row[:place]), tree_by_words(row[place:])), whole)

    def test_every_small_row_out_of_any_two(self):
        for row in small_rows():
            whole = tree_by_words(row)
            for place in range(len(row) + 1):
                self.assertEqual(joined(tree_by_words(row[:place]), tree_by_words(row[place:])), whole)

    def test_each_row_and_each_other_behind_it(self):
        for (name, row), (behind, other) in itertools.product(ROWS.items(), repeat=2):
            with self.subTest(name, behind=behind):
                self.assertEqual(joined(tree_by_words(row), tree_by_words(other)), tree_by_words(row + other))

    def test_of_equal_ranks_on_both_sides_the_one_furthest_ahead_is_first(self):
        self.assertEqual(
            joined((None, (1, 5), None, 1), (None, (2, 5), None, 1)), (None, (1, 5), (None, (2, 5), None, 1), 2))
        self.assertEqual(
            joined((None, (2, 5), None, 1), (None, (1, 5), None, 1)), (None, (2, 5), (None, (1, 5), None, 1), 2))

    def test_the_one_lies_ahead_and_the_other_behind(self):
        one = (None, (1, 1), None, 1)
        other = (None, (2, 2), None, 1)
        self.assertEqual(joined(one, other), (one, (2, 2), None, 2))
        self.assertEqual(joined(other, one), (None, (2, 2), one, 2))

    def test_trees_as_deep_as_their_rows_are_long(self):
        for name, make in DEEP.items():
            for count in (100, 101, 150, 300):
                tree, row = make(count)
                for place in edges(count):
                    with self.subTest(name, count=count, place=place):
                        one = tree_by_words(row[:place])
                        self.assertEqual(joined(one, tree_by_words(row[place:])), tree)

    def test_trees_far_deeper_than_told(self):
        for one, other in itertools.product(DEEP, repeat=2):
            ahead, row_ahead = DEEP[one](3000)
            behind, row_behind = DEEP[other](3000)
            with self.subTest(one, behind=other):
                self.assertTrue(is_tree_of(joined(ahead, behind), row_ahead + row_behind))

    def test_what_is_handed_in_is_as_it_was(self):
        one = tree_by_words(ROWS["mixed"])
        other = tree_by_words(ROWS["below nought"])
        joined(one, other)
        joined(one, one)
        self.assertEqual(one, tree_by_words(ROWS["mixed"]))
        self.assertEqual(other, tree_by_words(ROWS["below nought"]))


class CutTest(unittest.TestCase):
    def check_cut(self, tree, row, place):
        pair = cut(tree, place)
        self.assertIs(type(pair), tuple)
        self.assertEqual(pair, (tree_by_words(row[:place]), tree_by_words(row[place:])))

    def test_each_place(self):
        for name, row in ROWS.items():
            tree = tree_by_words(row)
            for place in range(len(row) + 1):
                with self.subTest(name, place=place):
                    self.check_cut(tree, row, place)

    def test_each_place_of_every_small_row(self):
        for row in small_rows():
            tree = tree_by_words(row)
            for place in range(len(row) + 1):
                self.check_cut(tree, row, place)

    def test_the_documents_example(self):
        last = (None, (9, 5), None, 1)
        ahead = (None, (7, 1), None, 1)
        self.assertEqual(cut(DOCUMENT_TREE, 0), (None, DOCUMENT_TREE))
        self.assertEqual(cut(DOCUMENT_TREE, 1), (ahead, (None, (8, 5), last, 2)))
        self.assertEqual(cut(DOCUMENT_TREE, 2), ((ahead, (8, 5), None, 2), last))
        self.assertEqual(cut(DOCUMENT_TREE, 3), (DOCUMENT_TREE, None))

    def test_none_is_cut_at_nought_alone(self):
        self.assertEqual(cut(None, 0), (None, None))
        for place in [-2, -1, 1, 2] + HUGE:
            with self.assertRaises(NoPlace):
                cut(None, place)

    def test_any_other_place_is_refused(self):
        for name, row in ROWS.items():
            tree = tree_by_words(row)
            for place in outside(len(row)):
                with self.subTest(name), self.assertRaises(NoPlace):
                    cut(tree, place)

    def test_trees_as_deep_as_their_rows_are_long(self):
        for name, make in DEEP.items():
            for count in (100, 101, 150, 300):
                tree, row = make(count)
                for place in edges(count):
                    with self.subTest(name, count=count, place=place):
                        self.check_cut(tree, row, place)

    def test_trees_far_deeper_than_told(self):
        for name, make in DEEP.items():
            tree, row = make(3000)
            for place in edges(3000):
                with self.subTest(name, place=place):
                    ahead, behind = cut(tree, place)
                    self.assertTrue(is_tree_of(ahead, row[:place]))
                    self.assertTrue(is_tree_of(behind, row[place:]))

    def test_what_is_handed_in_is_as_it_was(self):
        for name, row in ROWS.items():
            tree = tree_by_words(row)
            cut(tree, len(row) // 2)
            for place in (-1, len(row) + 1):
                with self.assertRaises(NoPlace):
                    cut(tree, place)
            with self.subTest(name):
                self.assertEqual(tree, tree_by_words(row))


if __name__ == "__main__":
    unittest.main()
