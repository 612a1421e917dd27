"""What bars, places, links and trees may hold, and the refusal of what is none.

The errors' words never show what was handed in: it may be of any kind, and showing it could fail.
"""

from skybars.errors import BadBars, BadLinks, BadPlace, BadTree

HIGHEST = 10000000


def is_whole_within(value, least, most):
    # Python counts True and False among the whole numbers, the document doesn't.
    return isinstance(value, int) and not isinstance(value, bool) and least <= value <= most


def is_place(bars, value):
    return is_whole_within(value, 0, len(bars) - 1)


def check_bars(bars):
    if not isinstance(bars, list):
        raise BadBars("bars must be a list")
    if not all([is_whole_within(value, 0, HIGHEST) for value in bars]):
        raise BadBars("each bar must be a whole number from 0 to 10000000")


def check_two_places(bars, one, other):
    if not is_place(bars, one) or not is_place(bars, other):
        raise BadPlace("each place must be that of a bar")
    if one == other:
        raise BadPlace("the two places must be unlike")


def all_below_their_places(links):
    return all([is_whole_within(value, -1, place - 1) for place, value in enumerate(links)])


def check_links(links):
    if not isinstance(links, list):
        raise BadLinks("links must be a list")
    if not all_below_their_places(links):
        raise BadLinks("each link must be a whole number from -1 to below its place")


def check_parents(parents):
    if not isinstance(parents, list):
        raise BadTree("a tree must be a list")
    final = len(parents) - 1
    if not all([is_whole_within(value, -1, final) for value in parents]):
        raise BadTree("each bar must hang beneath a place of the list, or beneath -1")
