"""The links of bars, and of a list of links bars that have them or two places that show there are none."""

from skybars.bars import reach_starts
from skybars.boards import Answer
from skybars.checks import all_below_their_places, check_bars, check_links


class Row(Answer):
    def __init__(self, bars):
        self.bars = list(bars)

    def shows(self, links):
        return nearest_lower(self.bars) == links


class Crossed(Answer):
    def __init__(self, first, second):
        self.first = first
        self.second = second

    def shows(self, links):
        # Ahead of the indexes below, which would take places less than 0 without a word.
        if not 0 <= self.first < self.second < len(links):
            return False
        # Numbers that are no links may lie so too, but the document tells this of a list of links alone.
        return links[self.first] < links[self.second] < self.first and all_below_their_places(links)


def nearest_lower(bars):
    # A reach starts just behind the nearest lower bar, or at 0 where there is none.
    return [start - 1 for start in reach_starts(bars)]


def links(bars):
    check_bars(bars)
    return nearest_lower(bars)


# The place ahead whose link is crossed by that of this place, or -1. No two places ahead of this one may cross.
# Only the place just ahead, its link, the link of that and so on can be links here. What is passed by on the way
# is passed by for good: all places behind this one come to its link through it. So all walks together stay short.
def crossed_ahead(links, place):
    ahead = place - 1
    while ahead > links[place]:
        if links[ahead] < links[place]:
            return ahead
        ahead = links[ahead]
    return -1


def row_of(links):
    check_links(links)
    bars = []
    for place, link in enumerate(links):
        first = crossed_ahead(links, place)
        if first >= 0:
            return Crossed(first, place)
        # One higher than the bar at the link and no more: so the bars between are no lower, as they link
        # to that bar or to one of themselves, and no heights are needed beyond those of the longest chain.
        bars.append(bars[link] + 1 if link >= 0 else 0)
    return Row(bars)
