"""The tree of bars, and the bars of a tree."""

from skybars.checks import check_bars, check_parents
from skybars.errors import BadTree


def parents_in_tree(bars):
    parents = []
    # The bars, from the one above all down, each beneath the one before it, that a bar further behind may hang
    # beneath. An equal bar stays: the first of the least ones hangs above the others.
    rising = []
    for place, height in enumerate(bars):
        topmost = -1
        while rising and bars[rising[-1]] > height:
            topmost = rising.pop()
        parents.append(rising[-1] if rising else -1)
        # The higher bars just ahead are a tree already, which hangs beneath this bar now.
        if topmost >= 0:
            parents[topmost] = place
        rising.append(place)
    return parents


def tree(bars):
    check_bars(bars)
    return parents_in_tree(bars)


# How deep each place hangs, or -1 where places hang in a ring.
def depths(parents):
    beneath = [[] for parent in parents]
    deep = [-1 for parent in parents]
    waiting = []
    for place, parent in enumerate(parents):
        if parent == -1:
            deep[place] = 0
            waiting.append(place)
        else:
            beneath[parent].append(place)
    while waiting:
        above = waiting.pop()
        for place in beneath[above]:
            deep[place] = deep[above] + 1
            waiting.append(place)
    return deep


def bars_of(parents):
    check_parents(parents)
    bars = depths(parents)
    # In a tree of bars each one hangs deeper than all above it, so these bars have that tree again. Where they
    # have another one (as with a ring, or several above all), no bars have this one.
    if parents_in_tree(bars) != parents:
        raise BadTree("no bars have this tree")
    return bars
