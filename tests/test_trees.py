import inspect
import unittest
from itertools import product

from skybars.errors import BadTree
from skybars.trees import bars_of, tree
from tests import plain
from tests.rows import HIGHEST, no_trees, number_lists_up_to, product_rows, small_rows

LONG = 50000


class Interface(unittest.TestCase):
    def test_arguments(self):
        self.assertEqual(list(inspect.signature(tree).parameters), ["bars"])
        self.assertEqual(list(inspect.signature(bars_of).parameters), ["parents"])


class Tree(unittest.TestCase):
    def test_named_rows(self):
        self.assertEqual(tree([]), [])
        self.assertEqual(tree([0]), [-1])
        self.assertEqual(tree([HIGHEST]), [-1])
        self.assertEqual(tree([0, HIGHEST]), [-1, 0])
        self.assertEqual(tree([HIGHEST, 0]), [1, -1])
        self.assertEqual(tree([1, 2, 3]), [-1, 0, 1])
        self.assertEqual(tree([3, 2, 1]), [1, 2, -1])
        self.assertEqual(tree([2, 1, 2]), [1, -1, 1])
        self.assertEqual(tree([1, 3, 2]), [-1, 2, 0])
        self.assertEqual(tree([2, 3, 1]), [2, 0, -1])

    def test_of_equal_bars_the_first_hangs_above(self):
        self.assertEqual(tree([4, 4, 4]), [-1, 0, 1])
        self.assertEqual(tree([1, 2, 1]), [-1, 2, 0])
        self.assertEqual(tree([2, 1, 5, 1, 2, 3]), [1, -1, 3, 1, 3, 4])
        self.assertEqual(tree([3, 2, 2, 0, 2, 2]), [1, 3, 1, -1, 3, 4])

    def test_against_plain_building(self):
        for bars in small_rows():
            self.assertEqual(tree(bars), plain.tree(bars), bars)

    def test_kinds(self):
        told = tree([2, 1, 2])
        self.assertIs(type(told), list)
        self.assertEqual([type(parent) for parent in told], [int, int, int])

    def test_long_rows(self):
        self.assertEqual(tree([7] * LONG), list(range(-1, LONG - 1)))
        self.assertEqual(tree(list(range(LONG))), list(range(-1, LONG - 1)))
        self.assertEqual(tree(list(range(LONG, 0, -1))), list(range(1, LONG)) + [-1])


class BarsOf(unittest.TestCase):
    def test_named_trees(self):
        self.assertEqual(bars_of([]), [])
        self.assertEqual(bars_of([-1]), [0])
        self.assertEqual(bars_of([-1, 0]), [0, 1])
        self.assertEqual(bars_of([1, -1]), [1, 0])
        self.assertEqual(bars_of([1, -1, 1]), [1, 0, 1])
        self.assertEqual(bars_of([-1, 0, 1]), [0, 1, 2])
        self.assertEqual(bars_of([-1, 2, 0]), [0, 2, 1])
        self.assertEqual(bars_of([1, -1, 3, 1, 3, 4]), [1, 0, 2, 1, 2, 3])

    def test_over_all_lists_of_parents(self):
        for count in range(7):
            trees = {tuple(plain.tree(bars)) for bars in product_rows(count, count)}
            for numbers in product(range(-1, count), repeat=count):
                parents = list(numbers)
                if numbers in trees:
                    told = bars_of(parents)
                    self.assertEqual(told, [plain.depth(parents, place) for place in range(count)], parents)
                    self.assertEqual(plain.tree(told), parents)
                    self.assertEqual(tree(told), parents)
                else:
                    self.assertRaises(BadTree, bars_of, parents)

    def test_trees_of_bars(self):
        for bars in small_rows():
            self.assertEqual(tree(bars_of(tree(bars))), tree(bars), bars)

    def test_kinds(self):
        told = bars_of([1, -1, 1])
        self.assertIs(type(told), list)
        self.assertEqual([type(height) for height in told], [int, int, int])

    def test_long_trees(self):
        rising = list(range(LONG))
        self.assertEqual(bars_of(list(range(-1, LONG - 1))), rising)
        self.assertEqual(bars_of(list(range(1, LONG)) + [-1]), rising[::-1])
        zigzag = [place // 2 if place % 2 else LONG - place // 2 for place in range(LONG)]
        self.assertEqual(tree(bars_of(tree(zigzag))), tree(zigzag))


class Refusals(unittest.TestCase):
    def test_what_is_no_tree_by_kind_or_number(self):
        for number, wrong in enumerate(no_trees()):
            with self.subTest(number=number):
                self.assertRaises(BadTree, bars_of, wrong)

    def test_every_list_of_small_numbers_outside(self):
        for parents in number_lists_up_to(3, -3, 4):
            if parents and not all(-1 <= parent < len(parents) for parent in parents):
                self.assertRaises(BadTree, bars_of, parents)

    def test_what_is_no_tree_of_any_bars(self):
        for parents in [
            [0], [-1, -1], [1, 0], [0, -1], [-1, 1], [1, 2, 0], [-1, 2, 1], [-1, 0, 0], [2, 2, -1], [1, -1, 0],
            [2, -1, 1], [-1, 0, -1], [-1, -1, -1], [3, 3, -1, 2], [1, -1, 1, 1],
        ]:
            with self.subTest(parents):
                self.assertRaises(BadTree, bars_of, parents)

    def test_long_lists(self):
        self.assertRaises(BadTree, bars_of, [-1] * LONG)
        self.assertRaises(BadTree, bars_of, [-1] + [0] * LONG)
        self.assertRaises(BadTree, bars_of, list(range(1, LONG)) + [0])


class NothingKept(unittest.TestCase):
    def test_parents_are_not_changed(self):
        for parents in number_lists_up_to(4, -2, 4):
            before = list(parents)
            try:
                bars_of(parents)
            except BadTree:
                pass
            self.assertEqual(parents, before)

    def test_told_lists_are_new(self):
        for parents in [[], [-1], [1, -1], [1, -1, 1]]:
            before = list(parents)
            told = bars_of(parents)
            as_told = list(told)
            self.assertIsNot(told, parents)
            told.append("mine")
            told.reverse()
            self.assertEqual(parents, before)
            self.assertEqual(bars_of(parents), as_told)

    def test_later_changes_of_parents_change_nothing_told(self):
        parents = [1, -1, 1]
        told = bars_of(parents)
        parents.clear()
        self.assertEqual(told, [1, 0, 1])


if __name__ == "__main__":
    unittest.main()
