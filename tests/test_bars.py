import inspect
import unittest

from skybars.bars import reaches, seen_ahead, sees, shown
from skybars.errors import BadBars, BadPlace
from tests import plain
from tests.rows import HIGHEST, no_bars, no_wholes, small_rows

LONG = 50000


class Interface(unittest.TestCase):
    def test_arguments(self):
        for asked in [reaches, seen_ahead, shown]:
            self.assertEqual(list(inspect.signature(asked).parameters), ["bars"])
        self.assertEqual(list(inspect.signature(sees).parameters), ["bars", "one", "other"])


class Reaches(unittest.TestCase):
    def test_named_rows(self):
        self.assertEqual(reaches([]), [])
        self.assertEqual(reaches([0]), [(0, 0)])
        self.assertEqual(reaches([HIGHEST]), [(0, 0)])
        self.assertEqual(reaches([0, HIGHEST]), [(0, 1), (1, 1)])
        self.assertEqual(reaches([4, 4, 4]), [(0, 2), (0, 2), (0, 2)])
        self.assertEqual(reaches([1, 2, 3]), [(0, 2), (1, 2), (2, 2)])
        self.assertEqual(reaches([3, 2, 1]), [(0, 0), (0, 1), (0, 2)])
        self.assertEqual(reaches([2, 1, 5, 6, 2, 3]), [(0, 0), (0, 5), (2, 3), (3, 3), (2, 5), (5, 5)])

    def test_against_plain_count(self):
        for bars in small_rows():
            self.assertEqual(reaches(bars), plain.reaches(bars), bars)

    def test_kinds(self):
        told = reaches([2, 1, 2])
        self.assertIs(type(told), list)
        for pair in told:
            self.assertIs(type(pair), tuple)
            self.assertEqual([type(end) for end in pair], [int, int])

    def test_long_rows(self):
        final = LONG - 1
        self.assertEqual(reaches([7] * LONG), [(0, final)] * LONG)
        self.assertEqual(reaches(list(range(LONG))), [(place, final) for place in range(LONG)])
        self.assertEqual(reaches(list(range(LONG, 0, -1))), [(0, place) for place in range(LONG)])


class SeenAhead(unittest.TestCase):
    def test_named_rows(self):
        self.assertEqual(seen_ahead([]), [])
        self.assertEqual(seen_ahead([0]), [0])
        self.assertEqual(seen_ahead([0, 0, 0]), [0, 1, 1])
        self.assertEqual(seen_ahead([HIGHEST, 0, HIGHEST]), [0, 1, 2])
        self.assertEqual(seen_ahead([1, 2, 3]), [0, 1, 1])
        self.assertEqual(seen_ahead([3, 2, 1]), [0, 1, 1])
        self.assertEqual(seen_ahead([4, 3, 2, 1, 5]), [0, 1, 1, 1, 4])
        self.assertEqual(seen_ahead([5, 2, 2, 3]), [0, 1, 1, 2])

    def test_against_plain_count(self):
        for bars in small_rows():
            self.assertEqual(seen_ahead(bars), plain.seen_ahead(bars), bars)

    def test_kinds(self):
        told = seen_ahead([2, 1, 2])
        self.assertIs(type(told), list)
        self.assertEqual([type(count) for count in told], [int, int, int])

    def test_long_rows(self):
        self.assertEqual(seen_ahead([7] * LONG), [0] + [1] * (LONG - 1))
        self.assertEqual(seen_ahead(list(range(LONG))), [0] + [1] * (LONG - 1))
        falling = list(range(LONG, 0, -1))
        self.assertEqual(seen_ahead(falling + [LONG + 1]), [0] + [1] * (LONG - 1) + [LONG])


class Shown(unittest.TestCase):
    def test_named_rows(self):
        self.assertEqual(shown([]), [])
        self.assertEqual(shown([0]), [0])
        self.assertEqual(shown([0, 0, 0]), [0])
        self.assertEqual(shown([0, HIGHEST, HIGHEST]), [0, 1])
        self.assertEqual(shown([1, 2, 3]), [0, 1, 2])
        self.assertEqual(shown([3, 2, 1]), [0])
        self.assertEqual(shown([2, 1, 5, 5, 2, 6]), [0, 2, 5])

    def test_against_plain_count(self):
        for bars in small_rows():
            self.assertEqual(shown(bars), plain.shown(bars), bars)

    def test_kinds(self):
        told = shown([1, 2])
        self.assertIs(type(told), list)
        self.assertEqual([type(place) for place in told], [int, int])

    def test_long_rows(self):
        self.assertEqual(shown(list(range(LONG))), list(range(LONG)))
        self.assertEqual(shown(list(range(LONG, 0, -1))), [0])


class Sees(unittest.TestCase):
    def test_named_rows(self):
        self.assertIs(sees([0, 0], 0, 1), True)
        self.assertIs(sees([0, HIGHEST], 1, 0), True)
        self.assertIs(sees([2, 1, 2], 0, 2), True)
        self.assertIs(sees([2, 1, 2], 2, 0), True)
        self.assertIs(sees([2, 2, 2], 0, 2), False)
        self.assertIs(sees([1, 2, 3], 0, 2), False)
        self.assertIs(sees([1, 2, 3], 2, 0), False)
        self.assertIs(sees([3, 2, 1], 0, 2), False)
        self.assertIs(sees([HIGHEST, HIGHEST - 1, 0, HIGHEST], 3, 0), True)

    def test_against_plain_count(self):
        for bars in small_rows():
            for one in range(len(bars)):
                for other in range(len(bars)):
                    if one != other:
                        self.assertIs(sees(bars, one, other), plain.sees(bars, one, other), (bars, one, other))


class Refusals(unittest.TestCase):
    def test_sees_refuses_bars_first(self):
        for number, wrong in enumerate(no_bars()):
            with self.subTest(number=number):
                self.assertRaises(BadBars, sees, wrong, 0, 1)
                self.assertRaises(BadBars, sees, wrong, 0, 0)
                self.assertRaises(BadBars, sees, wrong, None, "1")

    def test_sees_refuses_what_is_no_place(self):
        bars = [3, 1, 2]
        for number, wrong in enumerate(no_wholes() + [-1, -3, 3, 4, 10 ** 5000, -10 ** 5000]):
            with self.subTest(number=number):
                self.assertRaises(BadPlace, sees, bars, wrong, 2)
                self.assertRaises(BadPlace, sees, bars, 2, wrong)
                self.assertRaises(BadPlace, sees, bars, wrong, wrong)

    def test_sees_refuses_equal_places(self):
        for place in range(3):
            self.assertRaises(BadPlace, sees, [3, 1, 2], place, place)

    def test_sees_refuses_where_there_is_no_second_bar(self):
        self.assertRaises(BadPlace, sees, [], 0, 1)
        self.assertRaises(BadPlace, sees, [5], 0, 1)
        self.assertRaises(BadPlace, sees, [5], 0, 0)

    def test_bounds_are_taken(self):
        self.assertEqual(shown([0, HIGHEST]), [0, 1])


if __name__ == "__main__":
    unittest.main()
