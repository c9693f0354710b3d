"""Bases, rows and wrong things that several tests share."""

import copy
import unittest

from figrow import errors

BASES = [2, 3, 7, 10, 16, 256, 999999, 1000000]

REFUSALS = [
    errors.NoBase,
    errors.NoRow,
    errors.NoFigure,
    errors.NoCount,
    errors.BelowNought,
    errors.ByNought,
]


class Odd:
    """A thing that cannot be compared, measured, iterated or shown."""

    def fail(self, *rest):
        raise RuntimeError("was asked")

    __eq__ = __lt__ = __le__ = __gt__ = __ge__ = __ne__ = fail
    __len__ = __iter__ = __getitem__ = __bool__ = __repr__ = __str__ = fail
    __int__ = __index__ = __hash__ = fail


NO_WHOLE_NUMBERS = [
    True, False, None, "", "5", b"5", 5.0, float("nan"), float("inf"), 5j,
    [], [5], (), (5,), {}, {5: 5}, {5}, range(5), object(), Odd(), int, len,
]

NO_BASES = NO_WHOLE_NUMBERS + [0, 1, -1, -2, -10, 1000001, 1000002, 10 ** 5000, -(10 ** 5000)]

NO_LISTS = [
    True, False, None, 0, 5, -5, "", "5", "1.2", b"", b"5", 5.0, (), (5,), (1, 2),
    {}, {0: 1}, set(), {1}, range(0), range(1, 3), iter([1]), (x for x in [1]), object(), Odd(), list, len,
]


def no_figures(base):
    """What is no figure of the base."""
    return NO_WHOLE_NUMBERS + [-1, -2, -base, base, base + 1, base * base, 10 ** 5000, -(10 ** 5000)]


def no_rows(base):
    """What is no row of the base: other things, bad figures at any place, noughts at the end."""
    wrong = list(NO_LISTS)
    for thing in no_figures(base):
        wrong += [[thing], [thing, 1], [1, thing, 1], [1, 0, thing]]
    wrong += [[0], [0, 0], [1, 0], [0, 1, 0], [1] * 150 + [0], [0] * 150]
    circle = []
    circle.append(circle)
    wrong += [circle, [[1]], [[], 1]]
    return wrong


def some_numbers(base):
    """Whole numbers around the edges of the base's rows, and long ones."""
    numbers = list(range(12))
    for many in [1, 2, 3, 4, 5, 31, 32, 33, 120, 257]:
        power = base ** many
        numbers += [power - 1, power, power + 1, power * (base - 1), power * 5 + base // 2]
    numbers += [3 ** 400, 7 ** 333 + 1, 10 ** 250, 123456789 ** 20]
    return numbers


def plain_row(base, number):
    """The row of a number, worked out by the plainest way, for comparison."""
    row = []
    while number:
        row.append(number % base)
        number //= base
    return row


def plain_number(base, row):
    """The number of a row, worked out by the words of point 3, for comparison."""
    number = 0
    worth = 1
    for figure in row:
        number += figure * worth
        worth *= base
    return number


def lists_within(thing):
    """All lists of a list or a tuple of such, itself included."""
    if not isinstance(thing, (list, tuple)):
        return []
    found = [thing] if isinstance(thing, list) else []
    for each in thing:
        found += lists_within(each)
    return found


def some_rows(base):
    """Rows of all lengths around the edges of the way of halves, also with many noughts."""
    most = base - 1
    rows = [[]]
    for many in [1, 2, 3, 4, 5, 6, 7, 8, 9, 13, 16, 17, 33]:
        rows += [[most] * many, [1] * many, [0] * (many - 1) + [most]]
        rows += [[1] + [0] * (many - 1) + [1], [most] * many + [0] * many + [1]]
        rows += [[0] * many + [most] * many, [place * 7 // 3 % base for place in range(many)] + [most]]
    return rows


class Case(unittest.TestCase):
    """A test case with checks for refusals and for what is handed in and given back."""

    def refused(self, refusal, function, *handed):
        """The function refuses this with that very class, under RowError and ValueError."""
        for wider in [refusal, errors.RowError, ValueError]:
            try:
                function(*handed)
            except wider as error:
                self.assertIs(type(error), refusal)
                for another in REFUSALS:
                    self.assertEqual(isinstance(error, another), another is refusal)
            else:
                self.fail(f"{function.__name__} refused nothing, {refusal.__name__} was due")

    def untouched(self, function, *handed):
        """What was handed in stays as it was, also when each list that came back is changed."""
        before = copy.deepcopy(handed)
        back = function(*handed)
        self.assertEqual(handed, before)
        kept = copy.deepcopy(back)
        lists = lists_within(back)
        self.assertTrue(lists)
        for at, each in enumerate(lists):
            for another in lists_within(list(handed)) + lists[:at]:
                self.assertIsNot(each, another)
        for each in lists:
            each.append(1)
            each[0] = 77
            each.insert(0, 99)
        self.assertEqual(handed, before)
        self.assertEqual(function(*handed), kept)

    def true_row(self, base, row):
        """This is a row: held against the words of point 3."""
        self.assertIs(type(row), list)
        for figure in row:
            self.assertIs(type(figure), int)
            self.assertTrue(0 <= figure < base)
        if row:
            self.assertNotEqual(row[-1], 0)
