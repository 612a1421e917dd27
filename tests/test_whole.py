"""Point [1] over every function that is asked with bars."""

import unittest

from skybars.bars import reaches, seen_ahead, sees, shown
from skybars.boards import board
from skybars.errors import BadBars, BarError
from skybars.links import links
from skybars.trees import tree
from skybars.water import levels, rims, water
from tests.rows import HIGHEST, no_bars, small_rows

TELL_LISTS = [reaches, seen_ahead, shown, levels, rims, links, tree]
ASKED_WITH_BARS = TELL_LISTS + [water, board]


class WholeProgram(unittest.TestCase):
    def test_what_is_no_list_of_bars_is_refused(self):
        for asked in ASKED_WITH_BARS:
            for number, wrong in enumerate(no_bars()):
                with self.subTest(asked=asked.__name__, number=number):
                    with self.assertRaises(BarError) as told:
                        asked(wrong)
                    self.assertIs(type(told.exception), BadBars)

    def test_the_bounds_of_heights(self):
        for asked in ASKED_WITH_BARS:
            with self.subTest(asked=asked.__name__):
                asked([0, HIGHEST])
                self.assertRaises(BadBars, asked, [0, HIGHEST + 1])
                self.assertRaises(BadBars, asked, [-1, HIGHEST])

    def test_bars_are_not_changed(self):
        for bars in small_rows():
            before = list(bars)
            for asked in ASKED_WITH_BARS:
                if bars or asked != board:
                    asked(bars)
            if len(bars) > 1:
                sees(bars, 0, len(bars) - 1)
            self.assertEqual(bars, before)

    def test_told_lists_are_new(self):
        # Of the rows here some are told again as they were handed in, by one function or another.
        for asked in TELL_LISTS:
            for bars in [[], [0], [0, 1], [0, 1, 1], [2, 1, 2]]:
                with self.subTest(asked=asked.__name__, bars=bars):
                    before = list(bars)
                    told = asked(bars)
                    as_told = list(told)
                    self.assertIsNot(told, bars)
                    self.assertIsNot(told, asked(bars))
                    told.append("mine")
                    told.reverse()
                    self.assertEqual(bars, before)
                    self.assertEqual(asked(bars), as_told)

    def test_later_changes_of_bars_change_nothing_told(self):
        for asked in TELL_LISTS:
            bars = [0, 1, 2]
            told = asked(bars)
            as_told = list(told)
            bars.reverse()
            bars.append(9)
            self.assertEqual(told, as_told, asked.__name__)


if __name__ == "__main__":
    unittest.main()
