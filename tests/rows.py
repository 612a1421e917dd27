"""Rows of bars, lists of links and of numbers to try, and values that are none."""

from array import array
from decimal import Decimal
from fractions import Fraction
from itertools import product

HIGHEST = 10000000

EDGE_ROWS = [
    [],
    [0],
    [5],
    [HIGHEST],
    [0, 0],
    [3, 3, 3, 3],
    [HIGHEST, HIGHEST, HIGHEST],
    [0, HIGHEST],
    [HIGHEST, 0],
    [0, HIGHEST, 0, HIGHEST, 0],
    [HIGHEST, 0, HIGHEST - 1, 0, HIGHEST],
    [1, 2, 3, 4, 5],
    [5, 4, 3, 2, 1],
    [2, 1, 5, 6, 2, 3],
    [1, 2, 3, 4, 5, 4, 3, 2, 1],
    [5, 4, 3, 2, 1, 2, 3, 4, 5],
    [4, 1, 4, 1, 4, 2, 2, 4],
]


def rows_up_to(length, heights):
    for count in range(length + 1):
        for row in product(range(heights), repeat=count):
            yield list(row)


def small_rows():
    yield from EDGE_ROWS
    yield from rows_up_to(5, 4)
    yield from product_rows(6, 3)
    yield from product_rows(7, 3)


def product_rows(count, heights):
    for row in product(range(heights), repeat=count):
        yield list(row)


def number_lists_up_to(length, least, most):
    for count in range(length + 1):
        for numbers in product(range(least, most + 1), repeat=count):
            yield list(numbers)


def link_lists(count):
    """Every list of links of this length."""
    for numbers in product(*[range(-1, place) for place in range(count)]):
        yield list(numbers)


class Stubborn:
    """Fails at whatever is asked of it."""

    def fail(self, *args):
        raise RuntimeError("asked a stubborn value")

    __eq__ = __ne__ = __lt__ = __le__ = __gt__ = __ge__ = fail
    __bool__ = __len__ = __iter__ = __getitem__ = __contains__ = fail
    __int__ = __index__ = __repr__ = __str__ = __hash__ = fail


def holding_itself():
    row = [1, 2]
    row.append(row)
    return row


def no_wholes():
    """Values that are no whole numbers, of many kinds."""
    return [
        True, False, None, 1.0, 0.0, -0.0, float("nan"), float("inf"), 1j, Fraction(1), Decimal(1),
        "", "1", "one", b"1", [], [1], (), (1,), {}, {1: 1}, {1}, range(2), len, int, object(), Stubborn(),
    ]


def no_heights():
    return no_wholes() + [-1, -HIGHEST, HIGHEST + 1, 10 ** 5000, -10 ** 5000]


def no_lists():
    return [
        None, True, False, 0, 5, 10 ** 5000, 1.5, "", "123", b"", b"123", bytearray(b"123"), array("i", [1, 2]),
        (), (1, 2, 3), {}, {0: 1}, set(), {1, 2}, frozenset([1]), range(3), iter([1, 2]), (n for n in [1, 2]),
        list, len, object(), Stubborn(),
    ]


def no_bars():
    """Values that are no list of bars: no lists, and lists with one wrong value at each place."""
    told = no_lists() + [holding_itself()]
    for wrong in no_heights():
        told.append([wrong])
        told.append([wrong, 2, 3])
        told.append([1, wrong, 3])
        told.append([1, 2, wrong])
    return told


def no_links():
    """Values that are no list of links."""
    told = no_lists() + [holding_itself()]
    for wrong in no_wholes() + [-2, -3, -HIGHEST, 3, 4, 10 ** 5000, -10 ** 5000]:
        told.append([wrong])
        told.append([wrong, -1, -1])
        told.append([-1, wrong, -1])
        told.append([-1, -1, wrong])
        told.append([-1, 0, wrong])
    told.extend([[0], [0, 0], [1, -1], [-1, 1], [-1, 0, 2], [-1, 0, 1, 3], [-1, -1, -1, 4]])
    return told


def no_trees():
    """Values that are no tree of any bars, by their kind or by a number outside the list."""
    told = no_lists() + [holding_itself()]
    for wrong in no_wholes() + [-2, -3, -HIGHEST, 3, 4, 10 ** 5000, -10 ** 5000]:
        told.append([wrong])
        told.append([wrong, 0, 1])
        told.append([1, -1, wrong])
        told.append([wrong, -1, 1])
        told.append([-1, 0, wrong])
        told.append([1, wrong, 1])
    return told
