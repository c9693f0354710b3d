"""Rows divided by figures and by rows, the ladder of two rows, rows told by another base."""

from figrow.errors import ByNought
from figrow.rows import need_figure, need_row, number_of, row_of, trimmed


def parted(base, row, figure):
    """Return the row of how often the figure goes into the row, and the figure that is left."""
    need_row(base, row)
    need_figure(base, figure)
    if figure == 0:
        raise ByNought("a row is not divided by nought")
    return by_figure(base, row, figure)


def divided(base, one, other):
    """Return the row of how often the second goes into the first, and the row that is left."""
    need_row(base, one)
    need_row(base, other)
    if not other:
        raise ByNought("a row is not divided by nought")
    return by_row(base, one, other)


def ladder(base, one, other):
    """Return all rows of how often, in order, and the last row that was divided by."""
    need_row(base, one)
    need_row(base, other)
    steps = []
    # Both are copied, as each of them may be the last that is divided by, and given back.
    first, second = list(one), list(other)
    while second:
        often, left = by_row(base, first, second)
        steps.append(often)
        first, second = second, left
    return steps, first


def turned(base, row, other):
    """Return the row of the same number by the base other."""
    return row_of(other, number_of(base, row))


def by_figure(base, row, figure):
    """Divide what surely is a row by a figure that is not nought."""
    often = []
    left = 0
    for each in reversed(row):
        times, left = divmod(left * base + each, figure)
        often.append(times)
    return trimmed(often[::-1]), left


def by_row(base, one, other):
    """Divide what surely is a row by another one that is not nought."""
    if len(other) == 1:
        often, figure = by_figure(base, one, other[0])
        return often, trimmed([figure])
    often = []
    # The nought at the end is there for the greatest place to have a place before it.
    left = one + [0]
    for place in reversed(range(len(one) - len(other) + 1)):
        often.append(take_all(base, left, other, place))
    return trimmed(often[::-1]), trimmed(left)


def take_all(base, left, other, place):
    """Take the row off what is left, from the place on, as often as it goes; return how often.

    What is left from the place on is below base times the row. So three of its
    greatest figures, divided by two of the row's, tell how often or one more.
    """
    end = place + len(other)
    most = (left[end] * base + left[end - 1]) * base + left[end - 2]
    often = most // (other[-1] * base + other[-2])
    take(base, left, other, place, often)
    if left[end] < 0:
        often -= 1
        take(base, left, other, place, -1)
    return often


def take(base, left, other, place, often):
    """Take the row off what is left, from the place on, so often; below nought it is put back."""
    carry = 0
    for at, figure in enumerate(other):
        carry, left[place + at] = divmod(left[place + at] - often * figure + carry, base)
    left[place + len(other)] += carry
