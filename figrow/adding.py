"""Sums and differences of rows, and rows scaled and shifted.

The functions plus, minus and moved look at nothing: they are for what was
looked at before, as the way of halves would else look at its rows over and over.
"""

from figrow.errors import BelowNought
from figrow.rows import need_count, need_figure, need_row, order, trimmed


def added(base, one, other):
    """Return the row of the sum."""
    need_row(base, one)
    need_row(base, other)
    return plus(base, one, other)


def taken(base, one, other):
    """Return the row of the first less the second."""
    need_row(base, one)
    need_row(base, other)
    if order(one, other) < 0:
        raise BelowNought("the second row is greater than the first")
    return minus(base, one, other)


def scaled(base, row, figure):
    """Return the row, figure times."""
    need_row(base, row)
    need_figure(base, figure)
    return carried(base, [each * figure for each in row])


def shifted(base, row, places):
    """Return the row with as many noughts at its beginning; nought stays nought."""
    need_row(base, row)
    need_count(places, 0)
    return moved(row, places)


def plus(base, one, other):
    """Return the row of the sum of what surely are rows."""
    longer, shorter = (one, other) if len(one) > len(other) else (other, one)
    amounts = list(longer)
    for place, figure in enumerate(shorter):
        amounts[place] += figure
    return carried(base, amounts)


def minus(base, one, other):
    """Return the row of the first less the second, which surely is not greater."""
    amounts = list(one)
    for place, figure in enumerate(other):
        amounts[place] -= figure
    return carried(base, amounts)


def moved(row, places):
    """Return the row with as many noughts at its beginning; nought stays nought."""
    # Nought is told apart first: the noughts for it might be too many to hold.
    if not row:
        return []
    return [0] * places + row


def carried(base, amounts):
    """Return the row of the amounts at the places, whatever goes over carried to the next place.

    An amount below nought borrows: division rounds down, so the carry is -1.
    The last carry is a figure wherever all amounts together are not below nought.
    """
    figures = []
    carry = 0
    for amount in amounts:
        carry, figure = divmod(amount + carry, base)
        figures.append(figure)
    figures.append(carry)
    return trimmed(figures)
