"""How high water stands between bars, how much there is, and the rims that hold it."""

from skybars.bars import turned
from skybars.checks import check_bars


def rims_ahead(bars):
    places = []
    highest = 0
    for place, height in enumerate(bars):
        # An equal bar doesn't take over: of several highest ones the first is the rim.
        if height > bars[highest]:
            highest = place
        places.append(highest)
    return places


def rims_behind(bars):
    # Seen from the other end of the row, the last of the highest bars is the first one.
    return turned(rims_ahead(list(reversed(bars))))


def rims(bars):
    check_bars(bars)
    return list(zip(rims_ahead(bars), rims_behind(bars)))


def levels(bars):
    # What is no list of bars is refused by the call.
    return [min(bars[ahead], bars[behind]) for ahead, behind in rims(bars)]


def water(bars):
    return sum([level - height for level, height in zip(levels(bars), bars)])
