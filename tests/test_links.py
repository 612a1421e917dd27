import inspect
import unittest
from itertools import product

from skybars.boards import Answer
from skybars.errors import BadLinks
from skybars.links import Crossed, Row, links, row_of
from tests import plain
from tests.rows import HIGHEST, link_lists, no_links, number_lists_up_to, product_rows, rows_up_to, small_rows

LONG = 50000


def lists_of_links(longest):
    return [numbers for count in range(longest + 1) for numbers in link_lists(count)]


class Interface(unittest.TestCase):
    def test_classes(self):
        self.assertEqual(Row.__bases__, (Answer,))
        self.assertEqual(Crossed.__bases__, (Answer,))

    def test_arguments(self):
        for asked, names in [
            (Row, ["bars"]), (Row.shows, ["self", "links"]), (Crossed, ["first", "second"]),
            (Crossed.shows, ["self", "links"]), (links, ["bars"]), (row_of, ["links"]),
        ]:
            self.assertEqual(list(inspect.signature(asked).parameters), names)

    def test_fields_are_what_was_handed_in(self):
        self.assertEqual(Row(bars=[3, 0, HIGHEST]).bars, [3, 0, HIGHEST])
        made = Crossed(first=9, second=-4)
        self.assertEqual((made.first, made.second), (9, -4))


class Links(unittest.TestCase):
    def test_named_rows(self):
        self.assertEqual(links([]), [])
        self.assertEqual(links([0]), [-1])
        self.assertEqual(links([HIGHEST]), [-1])
        self.assertEqual(links([0, HIGHEST]), [-1, 0])
        self.assertEqual(links([HIGHEST, 0]), [-1, -1])
        self.assertEqual(links([4, 4, 4]), [-1, -1, -1])
        self.assertEqual(links([1, 4, 4]), [-1, 0, 0])
        self.assertEqual(links([1, 2, 3]), [-1, 0, 1])
        self.assertEqual(links([3, 2, 1]), [-1, -1, -1])
        self.assertEqual(links([2, 1, 5, 6, 2, 3]), [-1, -1, 1, 2, 1, 4])

    def test_against_plain_search(self):
        for bars in small_rows():
            self.assertEqual(links(bars), plain.links(bars), bars)

    def test_kinds(self):
        told = links([2, 1, 2])
        self.assertIs(type(told), list)
        self.assertEqual([type(link) for link in told], [int, int, int])

    def test_long_rows(self):
        self.assertEqual(links([7] * LONG), [-1] * LONG)
        self.assertEqual(links(list(range(LONG))), list(range(-1, LONG - 1)))
        self.assertEqual(links(list(range(LONG, 0, -1))), [-1] * LONG)


class RowOf(unittest.TestCase):
    def test_named_lists(self):
        for asked in [[], [-1], [-1, -1], [-1, 0], [-1, 0, 0], [-1, 0, 1], [-1, 0, -1], [-1, -1, 1, 2, 1, 4]]:
            with self.subTest(asked):
                told = row_of(asked)
                self.assertIs(type(told), Row)
                self.assertEqual(plain.links(told.bars), asked)
        for asked, crossing in [([-1, -1, 0], (1, 2)), ([-1, 0, 0, 1], (2, 3)), ([-1, 0, -1, 2, 1], (2, 4))]:
            with self.subTest(asked):
                told = row_of(asked)
                self.assertIs(type(told), Crossed)
                self.assertEqual((told.first, told.second), crossing)

    def test_no_links_at_all(self):
        told = row_of([])
        self.assertIs(type(told), Row)
        self.assertEqual(told.bars, [])
        self.assertIs(told.shows([]), True)

    def test_over_all_lists_of_links(self):
        for asked in lists_of_links(7):
            told = row_of(asked)
            if plain.crossings(asked):
                self.assertIs(type(told), Crossed, asked)
                self.assertIn((told.first, told.second), plain.crossings(asked), asked)
            else:
                self.assertIs(type(told), Row, asked)
                self.assertEqual(plain.links(told.bars), asked)
                self.assertTrue(all(0 <= height <= HIGHEST for height in told.bars), asked)

    def test_a_row_just_where_some_bars_have_the_links(self):
        for count in range(7):
            had = {tuple(plain.links(bars)) for bars in product_rows(count, count)}
            for asked in link_lists(count):
                self.assertEqual(type(row_of(asked)) is Row, tuple(asked) in had, asked)

    def test_links_of_bars_have_a_row(self):
        for bars in small_rows():
            asked = plain.links(bars)
            told = row_of(asked)
            self.assertIs(type(told), Row, bars)
            self.assertEqual(plain.links(told.bars), asked)

    def test_kinds(self):
        told = row_of([-1, 0, 0])
        self.assertIs(type(told.bars), list)
        self.assertEqual([type(height) for height in told.bars], [int, int, int])
        told = row_of([-1, -1, 0])
        self.assertEqual([type(told.first), type(told.second)], [int, int])

    def test_long_lists(self):
        there_and_back = list(range(-1, LONG - 1)) + list(range(LONG - 2, -2, -1))
        for asked in [[-1] * LONG, list(range(-1, LONG - 1)), [-1] + [0] * LONG, there_and_back]:
            told = row_of(asked)
            self.assertIs(type(told), Row)
            self.assertEqual(links(told.bars), asked)
            self.assertIs(told.shows(asked), True)
        crossed = [-1] * LONG + [0]
        told = row_of(crossed)
        self.assertIs(type(told), Crossed)
        self.assertIs(told.shows(crossed), True)

    def test_what_is_no_list_of_links(self):
        for number, wrong in enumerate(no_links()):
            with self.subTest(number=number):
                self.assertRaises(BadLinks, row_of, wrong)

    def test_every_list_of_small_numbers(self):
        for asked in number_lists_up_to(4, -3, 4):
            if plain.are_links(asked):
                row_of(asked)
            else:
                self.assertRaises(BadLinks, row_of, asked)

    def test_no_list_of_links_goes_ahead_of_a_crossing(self):
        self.assertRaises(BadLinks, row_of, [-1, -1, 0, 9])
        self.assertRaises(BadLinks, row_of, [-1, -1, 0, True])


class RowShows(unittest.TestCase):
    def test_what_row_of_tells(self):
        for asked in lists_of_links(6):
            self.assertIs(row_of(asked).shows(asked), True, asked)

    def test_against_plain_search(self):
        for bars in rows_up_to(3, 3):
            had = plain.links(bars)
            for asked in number_lists_up_to(4, -2, 3):
                self.assertIs(Row(bars).shows(asked), asked == had, (bars, asked))

    def test_other_bars_with_the_same_links(self):
        self.assertIs(Row([5, 3, HIGHEST]).shows([-1, -1, 1]), True)
        self.assertIs(Row([0, 0, 1]).shows([-1, -1, 1]), True)
        self.assertIs(Row([0, 1, 1]).shows([-1, -1, 1]), False)

    def test_lists_of_another_length(self):
        self.assertIs(Row([]).shows([]), True)
        self.assertIs(Row([]).shows([-1]), False)
        self.assertIs(Row([5]).shows([]), False)
        self.assertIs(Row([1, 2]).shows([-1]), False)
        self.assertIs(Row([1, 2]).shows([-1, 0, 1]), False)

    def test_numbers_outside_the_list(self):
        huge = 10 ** 40
        for wrong in [1, 2, 3, -2, -3, huge, -huge]:
            self.assertIs(Row([1, 2]).shows([-1, wrong]), False)
            self.assertIs(Row([1, 2]).shows([wrong, 0]), False)

    def test_by_the_field_as_it_stands(self):
        asked = [-1, 0, 0]
        told = row_of(asked)
        for wrong in [[], [0, 1], [0, 1, 2], [0, 0, 0], [1, 0, 0], [0, 1, 1, 1]]:
            right = told.bars
            told.bars = wrong
            self.assertIs(told.shows(asked), False, wrong)
            told.bars = right
            self.assertIs(told.shows(asked), True)
        told.bars[2] = 9
        self.assertIs(told.shows(asked), False)
        told.bars[2] = 1
        self.assertIs(told.shows(asked), True)
        told.bars.append(0)
        self.assertIs(told.shows(asked), False)


class CrossedShows(unittest.TestCase):
    def test_against_plain_words(self):
        for asked in number_lists_up_to(4, -2, 3):
            for first, second in product(range(-2, len(asked) + 2), repeat=2):
                told = Crossed(first, second).shows(asked)
                self.assertIs(told, plain.is_crossed(asked, first, second), (asked, first, second))

    def test_over_all_lists_of_links(self):
        for asked in lists_of_links(6):
            crossings = plain.crossings(asked)
            for first, second in product(range(-1, len(asked) + 1), repeat=2):
                self.assertIs(Crossed(first, second).shows(asked), (first, second) in crossings, asked)

    def test_the_bounds_of_between(self):
        self.assertIs(Crossed(2, 4).shows([-1, 0, 0, 1, 1]), True)
        self.assertIs(Crossed(2, 4).shows([-1, 0, 0, 1, 0]), False)
        self.assertIs(Crossed(2, 4).shows([-1, 0, 0, 1, 2]), False)
        self.assertIs(Crossed(2, 4).shows([-1, 0, 0, 1, 3]), False)
        self.assertIs(Crossed(2, 4).shows([-1, 0, 0, 1, -1]), False)

    def test_places_that_are_none(self):
        asked = [-1, -1, 0]
        huge = 10 ** 40
        self.assertIs(Crossed(1, 2).shows(asked), True)
        for first, second in [
            (2, 1), (1, 1), (2, 2), (0, 0), (-2, -1), (-2, 2), (1, -1), (-1, 2), (1, 3), (3, 4), (1, huge),
            (-huge, 2), (huge, huge + 1), (0, 1), (0, 2),
        ]:
            with self.subTest(first=first, second=second):
                self.assertIs(Crossed(first, second).shows(asked), False)
        for asked in [[], [-1], [-1, -1]]:
            self.assertIs(Crossed(1, 2).shows(asked), False)
        self.assertIs(Crossed(0, 1).shows([]), False)
        self.assertIs(Crossed(-2, -1).shows([-1, -1]), False)

    def test_numbers_that_are_no_links(self):
        huge = 10 ** 40
        self.assertIs(Crossed(1, 2).shows([-1, -1, 0, -1]), True)
        for wrong in [-2, 3, 4, huge, -huge]:
            self.assertIs(Crossed(1, 2).shows([-1, -1, 0, wrong]), False)
        self.assertIs(Crossed(0, 1).shows([-2, -1]), False)
        self.assertIs(Crossed(1, 2).shows([0, -1, 0]), False)

    def test_by_the_fields_as_they_stand(self):
        asked = [-1, 0, 0, 1]
        told = row_of(asked)
        self.assertIs(told.shows(asked), True)
        for name, wrong in [("first", 1), ("first", 3), ("first", 0), ("second", 2), ("second", 4), ("second", 1)]:
            right = getattr(told, name)
            setattr(told, name, wrong)
            self.assertIs(told.shows(asked), False, (name, wrong))
            setattr(told, name, right)
            self.assertIs(told.shows(asked), True)

    def test_a_changed_list(self):
        asked = [-1, 0, 0, 1]
        told = row_of(asked)
        self.assertIs(told.shows([-1, 0, 1, 1]), False)
        self.assertIs(told.shows([-1, 0, 0, 2]), False)
        self.assertIs(told.shows([-1, 0, 0, 0]), False)
        self.assertIs(told.shows([-1, 0, 0]), False)
        self.assertIs(told.shows([-1, 0, 0, 1, -1]), True)


class NothingKept(unittest.TestCase):
    def test_nothing_is_changed(self):
        for asked in lists_of_links(5):
            before = list(asked)
            told = row_of(asked)
            fields = {name: list(value) if type(value) is list else value for name, value in vars(told).items()}
            told.shows(asked)
            self.assertEqual(asked, before)
            self.assertEqual(vars(told), fields)

    def test_the_list_is_copied(self):
        bars = [1, 2]
        one = Row(bars)
        other = Row(bars)
        bars.append(3)
        one.bars.clear()
        self.assertEqual(bars, [1, 2, 3])
        self.assertEqual(one.bars, [])
        self.assertEqual(other.bars, [1, 2])

    def test_each_answer_is_the_askers_own(self):
        for asked in [[], [-1], [-1, 0], [-1, -1, 0]]:
            one = row_of(asked)
            other = row_of(asked)
            self.assertIsNot(one, other)
            if type(one) is Row:
                self.assertIsNot(one.bars, asked)
                one.bars.append(7)
                one.bars.reverse()
            else:
                one.first = 0
            self.assertIs(one.shows(asked), False)
            self.assertIs(other.shows(asked), True)
            self.assertIs(row_of(asked).shows(asked), True)

    def test_later_changes_of_links_change_nothing_told(self):
        asked = [-1, 0, 1]
        told = row_of(asked)
        before = list(told.bars)
        asked.clear()
        self.assertEqual(told.bars, before)
        self.assertIs(told.shows([-1, 0, 1]), True)
        self.assertIs(told.shows(asked), False)


if __name__ == "__main__":
    unittest.main()
