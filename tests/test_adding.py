"""Points 1, 5 and 6: sums, differences, scaled and shifted rows, and what they refuse."""

import unittest

from figrow.adding import added, scaled, shifted, taken
from figrow.errors import BelowNought, NoBase, NoCount, NoFigure, NoRow
from tests.samples import (
    BASES, NO_BASES, NO_WHOLE_NUMBERS, Case, no_figures, no_rows, plain_number, plain_row, some_numbers,
)

# Of each function that takes a base: good things to hand in, behind the base.
GOOD = [
    (added, [[1, 1], [1]]),
    (taken, [[1, 1], [1]]),
    (scaled, [[1, 1], 1]),
    (shifted, [[1, 1], 1]),
]


class Sums(Case):
    def test_as_told(self):
        self.assertEqual(added(10, [7, 0, 2, 1], [3, 9, 7]), [0, 0, 0, 2])
        self.assertEqual(added(10, [1], [1, 0, 1]), [2, 0, 1])
        self.assertEqual(added(2, [1], [1]), [0, 1])
        self.assertEqual(added(1000000, [999999], [999999]), [999998, 1])

    def test_nought(self):
        self.assertEqual(added(10, [], []), [])
        self.assertEqual(added(10, [5, 0, 1], []), [5, 0, 1])
        self.assertEqual(added(10, [], [5, 0, 1]), [5, 0, 1])

    def test_all_small_ones(self):
        for base in [2, 3, 10]:
            for one in range(70):
                for other in range(70):
                    back = added(base, plain_row(base, one), plain_row(base, other))
                    self.assertEqual(back, plain_row(base, one + other))

    def test_great_ones(self):
        for base in BASES:
            numbers = some_numbers(base)
            for one, other in zip(numbers, numbers[7:] + numbers[:7]):
                back = added(base, plain_row(base, one), plain_row(base, other))
                self.true_row(base, back)
                self.assertEqual(back, plain_row(base, one + other))

    def test_a_carry_through_all_places(self):
        for base in BASES:
            for many in [1, 2, 100, 5000]:
                row = [base - 1] * many
                self.assertEqual(added(base, row, [1]), [0] * many + [1])
                self.assertEqual(added(base, [1], row), [0] * many + [1])
                self.assertEqual(added(base, row, row), [base - 2] + [base - 1] * (many - 1) + [1])

    def test_a_row_and_itself(self):
        row = [5, 0, 5]
        self.assertEqual(added(10, row, row), [0, 1, 0, 1])
        self.assertEqual(row, [5, 0, 5])


class Differences(Case):
    def test_as_told(self):
        self.assertEqual(taken(10, [7, 0, 2, 1], [8, 0, 2]), [9, 9, 9])
        self.assertEqual(taken(10, [5, 0, 1], [5]), [0, 0, 1])
        self.assertEqual(taken(2, [0, 1], [1]), [1])

    def test_nought(self):
        self.assertEqual(taken(10, [], []), [])
        self.assertEqual(taken(10, [5, 0, 1], []), [5, 0, 1])
        self.assertEqual(taken(10, [5, 0, 1], [5, 0, 1]), [])
        row = [9] * 300
        self.assertEqual(taken(10, row, row), [])
        self.assertEqual(taken(10, [3] * 300, [2] + [3] * 299), [1])

    def test_all_small_ones(self):
        for base in [2, 3, 10]:
            for one in range(70):
                for other in range(70):
                    rows = plain_row(base, one), plain_row(base, other)
                    if other > one:
                        self.refused(BelowNought, taken, base, *rows)
                    else:
                        self.assertEqual(taken(base, *rows), plain_row(base, one - other))

    def test_great_ones(self):
        for base in BASES:
            numbers = some_numbers(base)
            for one, other in zip(numbers, numbers[7:] + numbers[:7]):
                less, more = min(one, other), max(one, other)
                back = taken(base, plain_row(base, more), plain_row(base, less))
                self.true_row(base, back)
                self.assertEqual(back, plain_row(base, more - less))

    def test_a_borrowing_through_all_places(self):
        for base in BASES:
            for many in [1, 2, 100, 5000]:
                self.assertEqual(taken(base, [0] * many + [1], [1]), [base - 1] * many)
                self.assertEqual(taken(base, [0] * many + [1], [base - 1] * many), [1])

    def test_below_nought(self):
        for base in BASES:
            most = base - 1
            for one, other in [
                ([], [1]), ([1], [0, 1]), ([most] * 200, [0] * 200 + [1]),
                ([0] + [1] * 200, [1] + [1] * 200), ([most, 1], [0, 1, 1]),
            ]:
                self.refused(BelowNought, taken, base, one, other)


class Scaled(Case):
    def test_as_told(self):
        self.assertEqual(scaled(10, [5, 2], 4), [0, 0, 1])
        self.assertEqual(scaled(10, [7, 0, 2, 1], 9), [3, 6, 8, 0, 1])
        self.assertEqual(scaled(2, [1, 0, 1], 1), [1, 0, 1])
        self.assertEqual(scaled(1000000, [999999], 999999), [1, 999998])

    def test_nought(self):
        for base in BASES:
            self.assertEqual(scaled(base, [], 0), [])
            self.assertEqual(scaled(base, [], base - 1), [])
            self.assertEqual(scaled(base, [1], 0), [])
            self.assertEqual(scaled(base, [base - 1] * 200, 0), [])

    def test_small_ones(self):
        for base in [2, 3, 10]:
            for number in range(120):
                for figure in range(base):
                    back = scaled(base, plain_row(base, number), figure)
                    self.assertEqual(back, plain_row(base, number * figure))

    def test_great_ones(self):
        for base in BASES:
            for number in some_numbers(base):
                for figure in [0, 1, base // 2, base - 1]:
                    back = scaled(base, plain_row(base, number), figure)
                    self.true_row(base, back)
                    self.assertEqual(back, plain_row(base, number * figure))

    def test_long_ones(self):
        row = [9] * 5000
        self.assertEqual(scaled(10, row, 9), [1] + [9] * 4999 + [8])

    def test_what_is_no_figure(self):
        for base in BASES:
            for thing in no_figures(base):
                self.refused(NoFigure, scaled, base, [1, 1], thing)
                self.refused(NoFigure, scaled, base, [], thing)


class Shifted(Case):
    def test_as_told(self):
        self.assertEqual(shifted(10, [5, 2], 3), [0, 0, 0, 5, 2])
        self.assertEqual(shifted(2, [1], 1), [0, 1])
        self.assertEqual(shifted(10, [0, 7], 1), [0, 0, 7])

    def test_by_no_place(self):
        self.assertEqual(shifted(10, [5, 2], 0), [5, 2])
        self.assertEqual(shifted(10, [], 0), [])

    def test_nought_stays_nought(self):
        for places in [0, 1, 2, 500, 10 ** 30, 10 ** 5000]:
            self.assertEqual(shifted(10, [], places), [])

    def test_great_ones(self):
        for base in BASES:
            for number in some_numbers(base):
                for places in [0, 1, 2, 101]:
                    back = shifted(base, plain_row(base, number), places)
                    self.true_row(base, back)
                    self.assertEqual(plain_number(base, back), number * base ** places)

    def test_far(self):
        self.assertEqual(shifted(10, [5], 100000), [0] * 100000 + [5])

    def test_what_is_no_count(self):
        for thing in NO_WHOLE_NUMBERS + [-1, -2, -(10 ** 5000)]:
            self.refused(NoCount, shifted, 10, [1, 1], thing)
            self.refused(NoCount, shifted, 10, [], thing)


class Refusals(Case):
    def test_what_is_no_base(self):
        for function, good in GOOD:
            for thing in NO_BASES:
                self.refused(NoBase, function, thing, *good)

    def test_what_is_no_row(self):
        for base in BASES:
            for thing in no_rows(base):
                self.refused(NoRow, added, base, thing, [1])
                self.refused(NoRow, added, base, [1], thing)
                self.refused(NoRow, taken, base, thing, [1])
                self.refused(NoRow, taken, base, [1, 1], thing)
                self.refused(NoRow, scaled, base, thing, 1)
                self.refused(NoRow, shifted, base, thing, 1)

    def test_the_base_goes_before_all_else(self):
        for thing in [0, 1, 1000001, True, None, "10"]:
            for function, good in GOOD:
                self.refused(NoBase, function, thing, None, good[1])
                self.refused(NoBase, function, thing, good[0], None)
                self.refused(NoBase, function, thing, None, None)
            self.refused(NoBase, taken, thing, [1], [1, 1])

    def test_a_row_goes_before_what_else_is_handed_in(self):
        for row in [None, (1,), [10], [1, 0], [True]]:
            self.refused(NoRow, scaled, 10, row, 10)
            self.refused(NoRow, scaled, 10, row, None)
            self.refused(NoRow, shifted, 10, row, -1)
            self.refused(NoRow, shifted, 10, row, None)

    def test_a_row_goes_before_below_nought(self):
        self.refused(NoRow, taken, 10, [1], [1, 0])
        self.refused(NoRow, taken, 10, [1], [1, 10])
        self.refused(NoRow, taken, 10, [1], (1, 1))
        self.refused(NoRow, taken, 10, [True], [1, 1])
        self.refused(NoRow, taken, 10, [], [0, 0])

    def test_figures_of_a_greater_base_are_none(self):
        self.refused(NoRow, added, 2, [2], [1])
        self.refused(NoRow, added, 10, [1], [10])
        self.refused(NoFigure, scaled, 2, [1], 2)
        self.assertEqual(added(3, [2], [1]), [0, 1])


class Untouched(Case):
    def test_sums_and_differences(self):
        rows = [[], [1], [9], [9, 9, 9], [0, 0, 1], [5, 0, 5]]
        for one in rows:
            for other in rows:
                self.untouched(added, 10, one, other)
                if plain_number(10, one) >= plain_number(10, other):
                    self.untouched(taken, 10, one, other)

    def test_scaled_and_shifted(self):
        for row in [[], [1], [9, 9, 9], [0, 0, 1]]:
            for number in [0, 1, 2, 9]:
                self.untouched(scaled, 10, row, number)
                self.untouched(shifted, 10, row, number)

    def test_what_is_refused_is_unchanged_too(self):
        one, other = [1, 2], [3, 4, 0]
        self.refused(NoRow, added, 10, one, other)
        self.refused(NoRow, taken, 10, other, one)
        self.refused(BelowNought, taken, 10, one, [3, 4])
        self.assertEqual((one, other), ([1, 2], [3, 4, 0]))


if __name__ == "__main__":
    unittest.main()
