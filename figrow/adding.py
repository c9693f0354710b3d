"""Sums and differences of rows, and rows scaled and shifted."""

from figrow.errors import BelowNought
from figrow.rows import figure_at, need_count, need_figure, need_row, order, trimmed


def added(base, one, other):
    """Return the row of the sum."""
    need_row(base, one)
    need_row(base, other)
    places = range(max(len(one), len(other)))
    return carried(base, [figure_at(one, place) + figure_at(other, place) for place in places])


def taken(base, one, other):
    """Return the row of the first less the second."""
    need_row(base, one)
    need_row(base, other)
    if order(one, other) < 0:
        raise BelowNought("the second row is greater than the first")
    return carried(base, [one[place] - figure_at(other, place) for place in range(len(one))])


def scaled(base, row, figure):
    """Return the row, figure times."""
    need_row(base, row)
    need_figure(base, figure)
    return carried(base, [each * figure for each in row])


def shifted(base, row, places):
    """Return the row with as many noughts at its beginning; nought stays nought."""
    need_row(base, row)
    need_count(places, 0)
    # Nought is told apart first: the noughts for it might be too many to hold.
    if not row:
        return []
    return [0] * places + row


def carried(base, amounts):
    """Return the row of the amounts at the places, whatever goes over carried to the next place.

    An amount below nought borrows: division rounds down, so the carry is -1.
    The last carry is a figure wherever all amounts together are not below nought.
    """
    figures = []
    carry = 0
    for amount in amounts:
        carry, figure = divmod(amount + carry, base)
        figures.append(figure)
    figures.append(carry)
    return trimmed(figures)
