"""Rows written as texts, and texts read to rows."""

from figrow.errors import NoRow
from figrow.rows import fits, need_base, need_row

SIGNS = "0123456789"
MOST_SIGNS = 60


def written(base, row):
    """Return the text of a row: its figures by tens, the greatest place first, points between."""
    need_row(base, row)
    if not row:
        return "0"
    return ".".join([str(figure) for figure in reversed(row)])


def read(base, line):
    """Return the row that the text writes."""
    need_base(base)
    if not isinstance(line, str):
        raise NoRow("a text is wanted")
    if line == "0":
        return []
    row = [figure_of(base, word) for word in reversed(line.split("."))]
    if row[-1] == 0:
        raise NoRow("the first figure is 0")
    return row


def figure_of(base, word):
    """Return the figure of what surely is a base that the word between two points writes."""
    if not is_plain(word):
        raise NoRow("a figure is written by signs 0 to 9, the first of them no 0")
    figure = int(word)
    if not fits(base, figure):
        raise NoRow("a figure is not below the base")
    return figure


def is_plain(word):
    """Whether the word is of signs 0 to 9, the first no 0 but in 0 itself, and of no more than may be."""
    # The length goes first: a word may have more signs than Python turns into a whole number.
    if not 0 < len(word) <= MOST_SIGNS:
        return False
    if word[0] == "0" and word != "0":
        return False
    return all([sign in SIGNS for sign in word])
