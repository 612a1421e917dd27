"""How far each bar of a row reaches, and who sees whom."""

from skybars.checks import check_bars, check_two_places


def reach_starts(bars):
    starts = []
    # A bar with one behind it that is no higher is never the nearest lower one again: it is let go,
    # so that each place comes and goes once. The bars that stay rise.
    rising = []
    for place, height in enumerate(bars):
        while rising and bars[rising[-1]] >= height:
            rising.pop()
        starts.append(rising[-1] + 1 if rising else 0)
        rising.append(place)
    return starts


# What was told of a row from its other end, one place for each bar, told of the row itself.
def turned(places):
    final = len(places) - 1
    return [final - place for place in reversed(places)]


def reach_ends(bars):
    # Seen from the other end of the row, where a reach ends is where it starts.
    return turned(reach_starts(list(reversed(bars))))


def reaches(bars):
    check_bars(bars)
    return list(zip(reach_starts(bars), reach_ends(bars)))


def seen_ahead(bars):
    check_bars(bars)
    counts = []
    # The heights of the bars that one further behind may still see: a bar with one behind it
    # that is no lower is hidden for good. The heights that stay fall.
    falling = []
    for height in bars:
        seen = 0
        while falling and falling[-1] < height:
            falling.pop()
            seen = seen + 1
        if falling:
            # This one is seen too, and hides all that are ahead of it.
            seen = seen + 1
            if falling[-1] == height:
                falling.pop()
        falling.append(height)
        counts.append(seen)
    return counts


def shown(bars):
    check_bars(bars)
    places = []
    # Lower than every bar, so that the first one is always shown.
    highest = -1
    for place, height in enumerate(bars):
        if height > highest:
            places.append(place)
            highest = height
    return places


def sees(bars, one, other):
    check_bars(bars)
    check_two_places(bars, one, other)
    between = bars[min(one, other) + 1:max(one, other)]
    lesser = min(bars[one], bars[other])
    return all([height < lesser for height in between])
