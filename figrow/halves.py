"""Products of rows, by the slow way and by the way of halves, and the effort of the latter."""

from figrow.adding import carried, minus, moved, plus
from figrow.rows import need_count, need_row, trimmed

# A row of three figures is not cut: the sum of its two parts may have three figures again.
LEAST = 3


def slow(base, one, other):
    """Return the row of the product, by the slow way."""
    need_row(base, one)
    need_row(base, other)
    return by_figures(base, one, other)


def product(base, one, other, least):
    """Return the row of the product, by the way of halves."""
    need_halves(base, one, other, least)
    return by_halves(base, one, other, least)


def effort(base, one, other, least):
    """Return how many products of two figures the way of halves takes."""
    need_halves(base, one, other, least)
    return figure_products(base, one, other, least)


def need_halves(base, one, other, least):
    """Refuse what the way of halves cannot begin with."""
    need_row(base, one)
    need_row(base, other)
    need_count(least, LEAST)


def by_figures(base, one, other):
    """Return the row of the product: the first row, scaled by each figure of the second.

    All is added up at its places before anything is carried: to carry after
    each figure would go over the whole row anew for each of them.
    """
    amounts = [0] * (len(one) + len(other))
    for shift, figure in enumerate(other):
        for place, each in enumerate(one):
            amounts[place + shift] += each * figure
    return carried(base, amounts)


def by_halves(base, one, other, least):
    """Return the row of the product, by the slow way only where one row is short."""
    if is_short(one, other, least):
        return by_figures(base, one, other)
    half = half_of(one, other)
    factors = three_pairs(base, one, other, half)
    low, high, third = [by_halves(base, left, right, least) for left, right in factors]
    middle = minus(base, minus(base, third, low), high)
    return plus(base, plus(base, moved(middle, half), low), moved(high, 2 * half))


def figure_products(base, one, other, least):
    """Return how many products of two figures by_halves takes; it cuts just as that does."""
    if is_short(one, other, least):
        return len(one) * len(other)
    factors = three_pairs(base, one, other, half_of(one, other))
    return sum([figure_products(base, left, right, least) for left, right in factors])


def is_short(one, other, least):
    """Whether one of both rows has no more figures than the least."""
    return min(len(one), len(other)) <= least


def half_of(one, other):
    """Return the half of the number of figures of the longer row, rounded up."""
    return (max(len(one), len(other)) + 1) // 2


def three_pairs(base, one, other, half):
    """Return the pairs to multiply: both low parts, both high parts, both sums of the two."""
    low, high = cut(one, half)
    other_low, other_high = cut(other, half)
    sums = plus(base, low, high), plus(base, other_low, other_high)
    return [(low, other_low), (high, other_high), sums]


def cut(row, half):
    """Return the low part and the high part of a row, both without noughts at their end."""
    return trimmed(row[:half]), row[half:]
