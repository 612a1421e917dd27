import inspect
import unittest
from itertools import product

from skybars import boards
from skybars.bars import reaches
from skybars.boards import Answer, Board, board
from skybars.errors import BadBars, NoBar
from tests import plain
from tests.rows import EDGE_ROWS, HIGHEST, no_bars, rows_up_to, small_rows

LONG = 50000


def fields(told):
    return told.first, told.many, told.high, told.around


class Interface(unittest.TestCase):
    def test_classes(self):
        self.assertEqual(Answer.__module__, boards.__name__)
        self.assertEqual(Answer.__bases__, (object,))
        self.assertEqual(Board.__bases__, (Answer,))

    def test_arguments(self):
        self.assertEqual(list(inspect.signature(Board).parameters), ["first", "many", "high", "around"])
        self.assertEqual(list(inspect.signature(Board.shows).parameters), ["self", "bars"])
        self.assertEqual(list(inspect.signature(board).parameters), ["bars"])

    def test_fields_are_what_was_handed_in(self):
        made = Board(first=-4, many=0, high=10 ** 30, around=[(5, -5)])
        self.assertEqual(fields(made), (-4, 0, 10 ** 30, [(5, -5)]))


class GreatestBoard(unittest.TestCase):
    def test_named_rows(self):
        for bars, size in [
            ([0], 0), ([0, 0, 0], 0), ([5], 5), ([HIGHEST], HIGHEST), ([HIGHEST] * 3, 3 * HIGHEST),
            ([0, HIGHEST, 0], HIGHEST), ([3, 3, 3], 9), ([1, 2, 3, 4, 5], 9), ([5, 4, 3, 2, 1], 9),
            ([2, 1, 5, 6, 2, 3], 10), ([2, 2, 0, 2, 2, 2], 6), ([1, 1, 1, 1, 3], 5),
        ]:
            with self.subTest(bars):
                told = board(bars)
                self.assertEqual(told.many * told.high, size)

    def test_the_only_greatest_one(self):
        told = board([2, 1, 5, 6, 2, 3])
        self.assertEqual((told.first, told.many, told.high), (2, 2, 5))

    def test_none_is_greater(self):
        for bars in rows_up_to(5, 4):
            if bars:
                told = board(bars)
                self.assertTrue(plain.is_board(bars, told.first, told.many, told.high), bars)
                self.assertEqual(told.many * told.high, plain.greatest(bars), bars)

    def test_told_as_point_4_tells(self):
        for bars in small_rows():
            if bars:
                told = board(bars)
                self.assertTrue(plain.as_told(bars, *fields(told)), bars)
                self.assertIs(told.shows(bars), True, bars)

    def test_bars_of_height_0_have_the_whole_row_around_them(self):
        told = board([0, 3, 0, 2])
        self.assertEqual([told.around[0], told.around[2]], [(0, 3), (0, 3)])
        self.assertEqual(board([0, 0]).around, [(0, 1), (0, 1)])

    def test_kinds(self):
        for bars in [[0], [2, 1, 2], [0, HIGHEST]]:
            told = board(bars)
            self.assertIs(type(told), Board)
            self.assertEqual([type(told.first), type(told.many), type(told.high)], [int, int, int])
            self.assertIs(type(told.around), list)
            self.assertEqual(len(told.around), len(bars))
            for pair in told.around:
                self.assertIs(type(pair), tuple)
                self.assertEqual([type(end) for end in pair], [int, int])

    def test_long_rows(self):
        for bars in [[7] * LONG, list(range(LONG)), list(range(LONG, 0, -1)), [0, HIGHEST] * LONG]:
            told = board(bars)
            self.assertIs(told.shows(bars), True)
        self.assertEqual(board([7] * LONG).many, LONG)


class Shows(unittest.TestCase):
    def test_against_plain_words(self):
        for bars in rows_up_to(2, 3):
            count = len(bars)
            pairs = list(product(range(-1, count + 1), repeat=2))
            arounds = [list(around) for around in product(pairs, repeat=count)]
            for first, many, high in product(range(-2, count + 1), range(-1, count + 2), range(-1, 4)):
                for around in arounds:
                    asked = (first, many, high, around)
                    self.assertIs(Board(*asked).shows(bars), plain.as_told(bars, *asked), (bars, asked))

    def test_each_pair_against_plain_words(self):
        for bars in rows_up_to(4, 3):
            for place in range(len(bars)):
                for pair in product(range(-2, len(bars) + 2), repeat=2):
                    told = board(bars)
                    told.around[place] = pair
                    self.assertIs(told.shows(bars), plain.as_told(bars, *fields(told)), (bars, fields(told)))

    def test_each_stretch_and_height_against_plain_words(self):
        for bars in rows_up_to(4, 3):
            if bars:
                told = board(bars)
                for first, many, high in product(range(-2, 6), range(-2, 6), range(-2, 5)):
                    asked = (first, many, high, told.around)
                    self.assertIs(Board(*asked).shows(bars), plain.as_told(bars, *asked), (bars, asked))

    def test_another_greatest_board(self):
        bars = [2, 2, 0, 4]
        self.assertIs(Board(0, 2, 2, reaches(bars)).shows(bars), True)
        self.assertIs(Board(3, 1, 4, reaches(bars)).shows(bars), True)

    def test_pairs_wider_than_the_reach(self):
        bars = [2, 1, 1, 5, 5]
        for last in [0, 1, 4]:
            self.assertIs(Board(3, 2, 5, [(0, last)] + reaches(bars)[1:]).shows(bars), True)
        for last in [2, 3]:
            self.assertIs(Board(3, 2, 5, [(0, last)] + reaches(bars)[1:]).shows(bars), False)

    def test_wide_pair_that_would_be_greater(self):
        bars = [3, 1, 1, 5]
        self.assertIs(Board(3, 1, 5, [(0, 0)] + reaches(bars)[1:]).shows(bars), True)
        self.assertIs(Board(3, 1, 5, [(0, 1)] + reaches(bars)[1:]).shows(bars), False)

    def test_pair_that_ends_at_an_equal_bar(self):
        bars = [1, 1, 9]
        self.assertIs(Board(2, 1, 9, [(0, 2), (0, 2), (2, 2)]).shows(bars), True)
        self.assertIs(Board(2, 1, 9, [(0, 0), (0, 2), (2, 2)]).shows(bars), False)
        self.assertIs(Board(2, 1, 9, [(0, 2), (1, 2), (2, 2)]).shows(bars), False)

    def test_a_board_that_is_not_the_greatest(self):
        bars = [1, 3]
        self.assertIs(Board(0, 2, 1, reaches(bars)).shows(bars), False)
        self.assertIs(Board(1, 1, 3, reaches(bars)).shows(bars), True)
        self.assertIs(Board(1, 1, 2, reaches(bars)).shows(bars), False)

    def test_numbers_outside_the_row(self):
        bars = [4, 4]
        around = [(0, 1), (0, 1)]
        self.assertIs(Board(0, 2, 4, around).shows(bars), True)
        huge = 10 ** 40
        for first, many, high in [
            (-1, 2, 4), (-2, 2, 4), (-1, 3, 4), (1, 2, 4), (2, 2, 4), (0, 3, 4), (0, 2, 5), (0, -2, -4), (2, -2, -4),
            (0, 0, 4), (0, 2, -1), (huge, 2, 4), (-huge, huge, 4), (0, huge, 4), (0, 2, huge), (0, -huge, -huge),
        ]:
            with self.subTest(first=first, many=many, high=high):
                self.assertIs(Board(first, many, high, around).shows(bars), False)
        for wrong in [(-1, 1), (0, 2), (-2, 1), (-1, 2), (1, 0), (huge, huge), (-huge, 1), (0, huge)]:
            with self.subTest(wrong):
                self.assertIs(Board(0, 2, 4, [wrong, (0, 1)]).shows(bars), False)
                self.assertIs(Board(0, 2, 4, [(0, 1), wrong]).shows(bars), False)

    def test_lists_shorter_or_longer_than_the_bars(self):
        bars = [4, 4]
        for count in [0, 1, 3, 4]:
            self.assertIs(Board(0, 2, 4, [(0, 1)] * count).shows(bars), False)
        self.assertIs(Board(0, 1, 0, []).shows([0]), False)

    def test_no_bars_have_no_board(self):
        self.assertIs(Board(0, 0, 0, []).shows([]), False)
        self.assertIs(Board(0, 1, 0, []).shows([]), False)
        self.assertIs(Board(-1, 1, 0, []).shows([]), False)

    def test_bars_of_height_0(self):
        self.assertIs(Board(1, 1, 0, [(0, 1), (0, 1)]).shows([0, 0]), True)
        self.assertIs(Board(1, 1, 0, [(0, 1), (1, 1)]).shows([0, 0]), False)
        self.assertIs(Board(0, 2, 0, [(0, 1), (1, 1)]).shows([0, 1]), False)

    def test_other_bars(self):
        told = board([2, 1, 2])
        self.assertIs(told.shows([2, 1, 2]), True)
        self.assertIs(told.shows([2, 1, 4]), False)
        self.assertIs(told.shows([2, 0, 2]), False)
        self.assertIs(told.shows([2, 1]), False)
        self.assertIs(told.shows([2, 1, 2, 0]), False)

    def test_by_the_fields_as_they_stand(self):
        bars = [1, 3, 3, 1]
        for name, wrong in [("first", 0), ("many", 1), ("high", 2), ("around", []), ("around", [(0, 3)] * 4)]:
            with self.subTest(name=name, wrong=wrong):
                told = board(bars)
                right = getattr(told, name)
                setattr(told, name, wrong)
                self.assertIs(told.shows(bars), False)
                setattr(told, name, right)
                self.assertIs(told.shows(bars), True)

    def test_by_the_list_as_it_stands(self):
        bars = [1, 3, 3, 1]
        told = board(bars)
        told.around.append((0, 3))
        self.assertIs(told.shows(bars), False)
        told.around.pop()
        self.assertIs(told.shows(bars), True)
        told.around[1] = (1, 1)
        self.assertIs(told.shows(bars), False)


class Refusals(unittest.TestCase):
    def test_what_is_no_list_of_bars(self):
        # The empty ones among these are refused as no bars, not as none.
        for number, wrong in enumerate(no_bars()):
            with self.subTest(number=number):
                self.assertRaises(BadBars, board, wrong)

    def test_no_bar(self):
        self.assertRaises(NoBar, board, [])


class NothingKept(unittest.TestCase):
    def test_nothing_is_changed(self):
        for bars in EDGE_ROWS:
            if bars:
                before = list(bars)
                told = board(bars)
                as_told = (told.first, told.many, told.high, list(told.around))
                told.shows(bars)
                self.assertEqual(bars, before)
                self.assertEqual(fields(told), as_told)

    def test_the_list_is_copied(self):
        around = [(0, 1), (0, 1)]
        one = Board(0, 2, 4, around)
        other = Board(0, 2, 4, around)
        around.append((0, 0))
        one.around.clear()
        self.assertEqual(around, [(0, 1), (0, 1), (0, 0)])
        self.assertEqual(one.around, [])
        self.assertEqual(other.around, [(0, 1), (0, 1)])
        self.assertIs(other.shows([4, 4]), True)

    def test_each_answer_is_the_askers_own(self):
        bars = [2, 1, 2]
        one = board(bars)
        other = board(bars)
        self.assertIsNot(one, other)
        one.around.clear()
        one.high = 7
        self.assertIs(other.shows(bars), True)
        self.assertIs(board(bars).shows(bars), True)
        self.assertEqual(reaches(bars), [(0, 0), (0, 2), (2, 2)])

    def test_later_changes_of_bars_change_nothing_told(self):
        bars = [2, 1, 2]
        told = board(bars)
        before = (told.first, told.many, told.high, list(told.around))
        bars.clear()
        self.assertEqual(fields(told), before)


if __name__ == "__main__":
    unittest.main()
