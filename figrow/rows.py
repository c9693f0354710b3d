"""Bases, figures, rows, the numbers that rows stand for, and their order.

The functions called need_.. refuse what is none of its kind. Their messages
do not show what was refused: it may be of any kind and of any size.
"""

from figrow.errors import BelowNought, NoBase, NoCount, NoFigure, NoRow

LEAST_BASE = 2
MOST_BASE = 1000000


def is_base(base):
    """Whether this is a base."""
    return is_whole(base) and LEAST_BASE <= base <= MOST_BASE


def is_figure(base, figure):
    """Whether this is a figure of the base."""
    need_base(base)
    return fits(base, figure)


def is_row(base, row):
    """Whether this is a row of the base."""
    need_base(base)
    if not isinstance(row, list):
        return False
    for figure in row:
        if not fits(base, figure):
            return False
    return not row or row[-1] != 0


def row_of(base, number):
    """Return the row of a whole number."""
    need_base(base)
    if not is_whole(number):
        raise NoCount("a whole number is wanted")
    if number < 0:
        raise BelowNought("no row stands for a number below nought")
    parts = [number]
    # Halving all parts at once keeps very great numbers quick: figure by
    # figure, the whole number would be divided anew for each figure.
    for step in reversed(squares_up_to(base, number)):
        parts = split_all(parts, step)
    return trimmed(parts)


def number_of(base, row):
    """Return the whole number that the row stands for."""
    need_row(base, row)
    parts = row
    step = base
    # Joining all parts two by two keeps long rows quick, as in row_of.
    while len(parts) > 1:
        parts = joined_pairs(parts, step)
        step = step * step
    return figure_at(parts, 0)


def trimmed(figures):
    """Return the figures without the noughts at their end."""
    many = len(figures)
    while many > 0 and figures[many - 1] == 0:
        many -= 1
    return figures[:many]


def order(one, other):
    """Return -1, 0 or 1: the first row is less than the second, equal, greater."""
    if len(one) != len(other):
        return -1 if len(one) < len(other) else 1
    for place in reversed(range(len(one))):
        if one[place] != other[place]:
            return -1 if one[place] < other[place] else 1
    return 0


def is_whole(thing):
    """Whether this is a whole number; True and False are none."""
    return isinstance(thing, int) and not isinstance(thing, bool)


def fits(base, figure):
    """Whether this is a figure of what surely is a base."""
    return is_whole(figure) and 0 <= figure < base


def figure_at(row, place):
    """Return the figure at the place, nought beyond the end of the row."""
    return row[place] if place < len(row) else 0


def squares_up_to(base, number):
    """Return the base, its square, the square of that and so on, none above the number."""
    squares = []
    square = base
    while square <= number:
        squares.append(square)
        square = square * square
    return squares


def split_all(parts, step):
    """Split each part, the least place first, into what is below the step and how often the step goes."""
    halves = []
    for part in parts:
        often, left = divmod(part, step)
        halves.append(left)
        halves.append(often)
    return halves


def joined_pairs(parts, step):
    """Join each two neighbours, of which the second counts step times; undoes split_all."""
    joined = []
    for at in range(0, len(parts), 2):
        joined.append(parts[at] + figure_at(parts, at + 1) * step)
    return joined


def need_base(base):
    """Refuse what is no base."""
    if not is_base(base):
        raise NoBase("a base is a whole number from 2 to 1000000")


def need_row(base, row):
    """Refuse what is no row of the base, and before it a base that is none."""
    if not is_row(base, row):
        raise NoRow("a row is a list of figures of the base, the last one not nought")


def need_figure(base, figure):
    """Refuse what is no figure of the base, and before it a base that is none."""
    if not is_figure(base, figure):
        raise NoFigure("a figure is a whole number from nought to below the base")


def need_count(count, least):
    """Refuse what is no count from the least on."""
    if not is_whole(count) or count < least:
        raise NoCount("a count is a whole number, none below the least that is told")
