"""What bars and places are, and the refusal of what is none.

The errors' words never show what was handed in: it may be of any kind, and showing it could fail.
"""

from skybars.errors import BadBars, BadPlace

HIGHEST = 10000000


def is_whole(value):
    # Python counts True and False among the whole numbers, the document doesn't.
    return isinstance(value, int) and not isinstance(value, bool)


def is_height(value):
    return is_whole(value) and 0 <= value <= HIGHEST


def is_place(bars, value):
    return is_whole(value) and 0 <= value < len(bars)


def check_bars(bars):
    if not isinstance(bars, list):
        raise BadBars("bars must be a list")
    if not all([is_height(value) for value in bars]):
        raise BadBars("each bar must be a whole number from 0 to 10000000")


def check_two_places(bars, one, other):
    if not is_place(bars, one) or not is_place(bars, other):
        raise BadPlace("each place must be that of a bar")
    if one == other:
        raise BadPlace("the two places must be unlike")
