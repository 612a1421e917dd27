import inspect
import unittest

from skybars.water import levels, rims, water
from tests import plain
from tests.rows import HIGHEST, rows_up_to, small_rows

LONG = 50000


class Interface(unittest.TestCase):
    def test_arguments(self):
        for asked in [levels, water, rims]:
            self.assertEqual(list(inspect.signature(asked).parameters), ["bars"])


class Levels(unittest.TestCase):
    def test_named_rows(self):
        self.assertEqual(levels([]), [])
        self.assertEqual(levels([0]), [0])
        self.assertEqual(levels([7]), [7])
        self.assertEqual(levels([HIGHEST]), [HIGHEST])
        self.assertEqual(levels([4, 4, 4]), [4, 4, 4])
        self.assertEqual(levels([1, 2, 3]), [1, 2, 3])
        self.assertEqual(levels([3, 2, 1]), [3, 2, 1])
        self.assertEqual(levels([0, HIGHEST]), [0, HIGHEST])
        self.assertEqual(levels([HIGHEST, 0, HIGHEST]), [HIGHEST, HIGHEST, HIGHEST])
        self.assertEqual(levels([0, HIGHEST, 0, HIGHEST - 1, 0]), [0, HIGHEST, HIGHEST - 1, HIGHEST - 1, 0])
        self.assertEqual(levels([2, 1, 5, 0, 6, 2, 3]), [2, 2, 5, 5, 6, 3, 3])

    def test_against_plain_count(self):
        for bars in small_rows():
            self.assertEqual(levels(bars), plain.levels(bars), bars)

    def test_kinds(self):
        told = levels([2, 1, 2])
        self.assertIs(type(told), list)
        self.assertEqual([type(level) for level in told], [int, int, int])

    def test_long_rows(self):
        for bars in [[7] * LONG, list(range(LONG)), list(range(LONG, 0, -1))]:
            self.assertEqual(levels(bars), bars)
        self.assertEqual(levels([3] + [0] * LONG + [2]), [3] + [2] * (LONG + 1))


class Water(unittest.TestCase):
    def test_named_rows(self):
        for bars, much in [
            ([], 0), ([0], 0), ([7], 0), ([HIGHEST], 0), ([4, 4, 4], 0), ([1, 2, 3], 0), ([3, 2, 1], 0),
            ([1, 2, 3, 2, 1], 0), ([3, 2, 1, 2, 3], 4), ([0, HIGHEST, 0], 0), ([HIGHEST, 0, HIGHEST], HIGHEST),
            ([HIGHEST, 0, 0, HIGHEST - 1], 2 * (HIGHEST - 1)), ([0, 1, 0, 2, 1, 0, 1, 3, 2, 1, 2, 1], 6),
            ([4, 2, 0, 3, 2, 5], 9), ([2, 1, 5, 0, 6, 2, 3], 7),
        ]:
            with self.subTest(bars):
                self.assertEqual(water(bars), much)

    def test_each_piece_counted(self):
        for bars in rows_up_to(5, 4):
            self.assertEqual(water(bars), plain.water(bars), bars)

    def test_between_levels_and_bars(self):
        for bars in small_rows():
            self.assertEqual(water(bars), sum(plain.levels(bars)) - sum(bars), bars)

    def test_kind(self):
        for bars in [[], [3], [2, 1, 2]]:
            self.assertIs(type(water(bars)), int)

    def test_more_than_any_bar_is_high(self):
        self.assertEqual(water([HIGHEST] + [0] * LONG + [HIGHEST]), HIGHEST * LONG)


class Rims(unittest.TestCase):
    def test_named_rows(self):
        self.assertEqual(rims([]), [])
        self.assertEqual(rims([0]), [(0, 0)])
        self.assertEqual(rims([HIGHEST]), [(0, 0)])
        self.assertEqual(rims([0, HIGHEST]), [(0, 1), (1, 1)])
        self.assertEqual(rims([HIGHEST, 0]), [(0, 0), (0, 1)])
        self.assertEqual(rims([1, 2, 3]), [(0, 2), (1, 2), (2, 2)])
        self.assertEqual(rims([3, 2, 1]), [(0, 0), (0, 1), (0, 2)])
        self.assertEqual(rims([2, 1, 5, 0, 6, 2, 3]), [(0, 4), (0, 4), (2, 4), (2, 4), (4, 4), (4, 6), (4, 6)])

    def test_first_of_the_highest_ahead_and_last_of_them_behind(self):
        self.assertEqual(rims([4, 4, 4]), [(0, 2), (0, 2), (0, 2)])
        self.assertEqual(rims([0, 0]), [(0, 1), (0, 1)])
        self.assertEqual(rims([1, 3, 3, 0, 3, 3, 2]), [(0, 5), (1, 5), (1, 5), (1, 5), (1, 5), (1, 5), (1, 6)])

    def test_against_plain_count(self):
        for bars in small_rows():
            self.assertEqual(rims(bars), plain.rims(bars), bars)

    def test_the_lower_rim_is_as_high_as_the_water(self):
        for bars in small_rows():
            self.assertEqual([min(bars[one], bars[other]) for one, other in rims(bars)], levels(bars), bars)

    def test_kinds(self):
        told = rims([2, 1, 2])
        self.assertIs(type(told), list)
        for pair in told:
            self.assertIs(type(pair), tuple)
            self.assertEqual([type(rim) for rim in pair], [int, int])

    def test_long_rows(self):
        final = LONG - 1
        self.assertEqual(rims([7] * LONG), [(0, final)] * LONG)
        self.assertEqual(rims(list(range(LONG))), [(place, final) for place in range(LONG)])
        self.assertEqual(rims(list(range(LONG, 0, -1))), [(0, place) for place in range(LONG)])


if __name__ == "__main__":
    unittest.main()
