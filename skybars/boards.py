"""The greatest board under bars, with what shows that none is greater."""

from skybars.bars import reaches
from skybars.errors import NoBar


class Answer:
    pass


class Board(Answer):
    def __init__(self, first, many, high, around):
        self.first = first
        self.many = many
        self.high = high
        self.around = list(around)

    def shows(self, bars):
        return self.lies_under(bars) and self.none_is_greater(bars)

    def lies_under(self, bars):
        end = self.first + self.many
        # Ahead of the slice below, which would take places outside the row without a word.
        if self.first < 0 or self.many < 1 or end > len(bars) or self.high < 0:
            return False
        return all([height >= self.high for height in bars[self.first:end]])

    def none_is_greater(self, bars):
        if len(self.around) != len(bars):
            return False
        size = self.many * self.high
        for place, pair in enumerate(self.around):
            if not ends_at_lower(bars, place, pair) or bars[place] * count_of_places(pair) > size:
                return False
        return True


def count_of_places(pair):
    return pair[1] - pair[0] + 1


# The pair may hold lower bars too: all that counts is that no board whose lowest bar this is goes past its ends.
def ends_at_lower(bars, place, pair):
    first = pair[0]
    last = pair[1]
    final = len(bars) - 1
    if not 0 <= first <= place <= last <= final:
        return False
    height = bars[place]
    starts_well = first == 0 or bars[first - 1] < height
    ends_well = last == final or bars[last + 1] < height
    return starts_well and ends_well


def board(bars):
    # What is no list of bars is refused here, ahead of no bar.
    around = reaches(bars)
    if not around:
        raise NoBar("there must be one bar at least")
    sizes = [height * count_of_places(pair) for height, pair in zip(bars, around)]
    best = sizes.index(max(sizes))
    return Board(around[best][0], count_of_places(around[best]), bars[best], around)
