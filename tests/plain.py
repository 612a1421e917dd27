"""Points [2] to [7] counted out word by word, slowly, with nothing of the program."""


def sees(bars, one, other):
    low, high = sorted([one, other])
    for between in range(low + 1, high):
        if not (bars[between] < bars[one] and bars[between] < bars[other]):
            return False
    return True


def seen_ahead(bars):
    return [len([ahead for ahead in range(place) if sees(bars, ahead, place)]) for place in range(len(bars))]


def shown(bars):
    return [place for place in range(len(bars)) if all(bars[ahead] < bars[place] for ahead in range(place))]


def stretches(bars):
    """Every stretch of one place or more, as its first and last place."""
    return [(first, last) for first in range(len(bars)) for last in range(first, len(bars))]


def reach(bars, place):
    fitting = [
        (first, last) for first, last in stretches(bars)
        if first <= place <= last and all(height >= bars[place] for height in bars[first:last + 1])
    ]
    return max(fitting, key=lambda pair: pair[1] - pair[0])


def reaches(bars):
    return [reach(bars, place) for place in range(len(bars))]


def greatest(bars):
    """How great the greatest board is, tried over every stretch and every height that fits."""
    best = 0
    for first, last in stretches(bars):
        high = 0
        while all(height >= high for height in bars[first:last + 1]):
            best = max(best, (last - first + 1) * high)
            high += 1
    return best


def is_board(bars, first, many, high):
    row = dict(enumerate(bars))
    if many < 1 or high < 0:
        return False
    return all(place in row and row[place] >= high for place in range(first, first + many))


def is_around(bars, place, pair):
    row = dict(enumerate(bars))
    first, last = pair
    if first not in row or last not in row or first > place or last < place:
        return False
    if first - 1 in row and row[first - 1] >= row[place]:
        return False
    if last + 1 in row and row[last + 1] >= row[place]:
        return False
    return True


def as_told(bars, first, many, high, around):
    """Whether these fields are as point [4] tells."""
    if not is_board(bars, first, many, high) or len(around) != len(bars):
        return False
    for place, pair in enumerate(around):
        if not is_around(bars, place, pair):
            return False
        if bars[place] * len(range(pair[0], pair[1] + 1)) > many * high:
            return False
    return True


def levels(bars):
    return [min(max(bars[:place + 1]), max(bars[place:])) for place in range(len(bars))]


def water(bars):
    """Every piece of water by itself: one high and one place wide, with a bar as high as it or higher on both sides."""
    pieces = 0
    for place in range(len(bars)):
        for high in range(bars[place] + 1, max(bars) + 1):
            held_ahead = any(bar >= high for bar in bars[:place + 1])
            held_behind = any(bar >= high for bar in bars[place:])
            if held_ahead and held_behind:
                pieces += 1
    return pieces


def highest(bars, places):
    return [place for place in places if all(bars[other] <= bars[place] for other in places)]


def rims(bars):
    count = len(bars)
    return [
        (min(highest(bars, range(0, place + 1))), max(highest(bars, range(place, count)))) for place in range(count)
    ]


def link(bars, place):
    lower = [ahead for ahead in range(place) if bars[ahead] < bars[place]]
    return lower[-1] if lower else -1


def links(bars):
    return [link(bars, place) for place in range(len(bars))]


def are_links(numbers):
    return all(number in range(-1, place) for place, number in enumerate(numbers))


def is_crossed(numbers, first, second):
    """Whether these places are as point [6] tells of Crossed."""
    places = range(len(numbers))
    if not are_links(numbers) or first not in places or second not in places or first >= second:
        return False
    return numbers[second] > numbers[first] and numbers[second] < first


def crossings(numbers):
    places = range(len(numbers))
    return [(first, second) for first in places for second in places if is_crossed(numbers, first, second)]


def tree(bars):
    parents = [None] * len(bars)

    def hang(start, end, above):
        if start == end:
            return
        least = min(bars[start:end])
        top = [place for place in range(start, end) if bars[place] == least][0]
        parents[top] = above
        hang(start, top, top)
        hang(top + 1, end, top)

    hang(0, len(bars), -1)
    return parents


def depth(parents, place):
    steps = 0
    while parents[place] != -1:
        place = parents[place]
        steps += 1
    return steps
