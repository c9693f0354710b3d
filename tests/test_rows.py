"""Points 1 to 5: bases, figures, rows, the numbers that they stand for, their order."""

import copy
import unittest

from figrow.errors import BelowNought, NoBase, NoCount, NoRow
from figrow.rows import is_base, is_figure, is_row, number_of, order, row_of, trimmed
from tests.samples import (
    BASES, NO_BASES, NO_WHOLE_NUMBERS, Case, no_figures, no_rows, plain_number, plain_row, some_numbers,
)


class Bases(Case):
    def test_bases(self):
        for base in [2, 3, 4, 9, 10, 11, 16, 60, 255, 256, 65536, 999999, 1000000]:
            self.assertIs(is_base(base), True)

    def test_what_is_no_base(self):
        for thing in NO_BASES:
            self.assertIs(is_base(thing), False)

    def test_refused_by_each_function(self):
        for thing in NO_BASES:
            self.refused(NoBase, is_figure, thing, 1)
            self.refused(NoBase, is_row, thing, [1])
            self.refused(NoBase, row_of, thing, 1)
            self.refused(NoBase, number_of, thing, [1])

    def test_looked_at_before_all_else(self):
        for thing in [0, 1, 1000001, True, None, "10", 10.0, [10]]:
            self.refused(NoBase, is_figure, thing, None)
            self.refused(NoBase, is_row, thing, None)
            self.refused(NoBase, row_of, thing, None)
            self.refused(NoBase, row_of, thing, -1)
            self.refused(NoBase, number_of, thing, None)
            self.refused(NoBase, number_of, thing, [0])


class Figures(Case):
    def test_figures(self):
        for base in BASES:
            for figure in [0, 1, base // 2, base - 2, base - 1]:
                self.assertIs(is_figure(base, figure), True)

    def test_what_is_no_figure(self):
        for base in BASES:
            for thing in no_figures(base):
                self.assertIs(is_figure(base, thing), False)


class Rows(Case):
    def test_rows(self):
        for base in BASES:
            most = base - 1
            for row in [[], [1], [most], [0, 1], [most, most], [1, 0, 0, 0, 1], [0] * 200 + [1], [most] * 300]:
                self.assertIs(is_row(base, row), True)

    def test_what_is_no_row(self):
        for base in BASES:
            for thing in no_rows(base):
                self.assertIs(is_row(base, thing), False)

    def test_nothing_is_changed(self):
        for row in [[], [1, 0, 1], [1, 0], [0], [10, 2]]:
            before = list(row)
            is_row(10, row)
            self.assertEqual(row, before)


class RowsAndNumbers(Case):
    def test_rows_as_told(self):
        self.assertEqual(row_of(10, 0), [])
        self.assertEqual(row_of(10, 7), [7])
        self.assertEqual(row_of(10, 1207), [7, 0, 2, 1])
        self.assertEqual(row_of(100, 120007), [7, 0, 12])
        self.assertEqual(row_of(2, 10), [0, 1, 0, 1])
        self.assertEqual(row_of(1000000, 999999), [999999])
        self.assertEqual(row_of(1000000, 1000000), [0, 1])
        self.assertEqual(row_of(2, 1), [1])

    def test_numbers_as_told(self):
        self.assertEqual(number_of(10, []), 0)
        self.assertEqual(number_of(10, [7]), 7)
        self.assertEqual(number_of(10, [7, 0, 2, 1]), 1207)
        self.assertEqual(number_of(100, [7, 0, 12]), 120007)
        self.assertEqual(number_of(2, [0, 1, 0, 1]), 10)
        self.assertEqual(number_of(1000000, [0, 0, 1]), 10 ** 12)

    def test_all_small_numbers(self):
        for base in [2, 3, 5, 10]:
            for number in range(1100):
                row = row_of(base, number)
                self.true_row(base, row)
                self.assertEqual(row, plain_row(base, number))
                self.assertEqual(number_of(base, row), number)

    def test_great_numbers_back_and_forth(self):
        for base in BASES:
            for number in some_numbers(base):
                row = row_of(base, number)
                self.true_row(base, row)
                self.assertEqual(row, plain_row(base, number))
                self.assertEqual(number_of(base, row), number)
                self.assertIs(type(number_of(base, row)), int)

    def test_long_rows(self):
        for base in BASES:
            for many in [1, 2, 3, 99, 100, 101, 127, 128, 129, 1000]:
                for row in [[base - 1] * many, [0] * many + [1], [1] + [0] * many + [1]]:
                    self.assertEqual(number_of(base, row), plain_number(base, row))
                    self.assertEqual(row_of(base, number_of(base, row)), row)

    def test_rows_far_beyond_all_depths(self):
        row = [1, 0, 9] * 30000
        number = number_of(10, row)
        self.assertEqual(number, 901 * (10 ** 90000 - 1) // 999)
        self.assertEqual(row_of(10, number), row)

    def test_what_is_no_whole_number(self):
        for thing in NO_WHOLE_NUMBERS:
            for base in [2, 10, 1000000]:
                self.refused(NoCount, row_of, base, thing)

    def test_below_nought(self):
        for number in [-1, -2, -10, -1000000, -(10 ** 5000)]:
            for base in BASES:
                self.refused(BelowNought, row_of, base, number)

    def test_what_is_no_row(self):
        for base in BASES:
            for thing in no_rows(base):
                self.refused(NoRow, number_of, base, thing)

    def test_nothing_is_changed(self):
        for row in [[], [1], [7, 0, 2, 1], [9] * 150]:
            before = list(row)
            number_of(10, row)
            self.assertEqual(row, before)

    def test_each_row_is_a_new_one(self):
        for number in [0, 1, 9, 10, 10 ** 200]:
            self.untouched(row_of, 10, number)


class Trimmed(Case):
    def test_trimmed(self):
        for figures, row in [
            ([], []), ([0], []), ([0, 0, 0], []), ([1], [1]), ([1, 0], [1]), ([0, 1], [0, 1]),
            ([0, 1, 0, 0], [0, 1]), ([5, 0, 3, 0], [5, 0, 3]), ([999999, 0], [999999]),
            ([0] * 500, []), ([1] + [0] * 500, [1]), ([0] * 500 + [1], [0] * 500 + [1]),
        ]:
            self.assertEqual(trimmed(figures), row)
            self.untouched(trimmed, figures)

    def test_very_long(self):
        self.assertEqual(trimmed([3] + [0] * 100000), [3])


class Order(Case):
    def test_small_ones_either_way_round(self):
        for base in [2, 3, 10]:
            rows = [plain_row(base, number) for number in range(60)]
            for one in range(60):
                for other in range(60):
                    wanted = (one > other) - (one < other)
                    back = order(rows[one], rows[other])
                    self.assertEqual(back, wanted)
                    self.assertIs(type(back), int)

    def test_edges(self):
        for one, other, wanted in [
            ([], [], 0), ([], [1], -1), ([9], [0, 1], -1), ([9, 9], [0, 0, 1], -1),
            ([9, 1], [0, 2], -1), ([1, 5, 2], [2, 4, 2], 1), ([1, 2, 3], [1, 2, 3], 0),
            ([9] * 400, [0] * 400 + [1], -1), ([1] + [0] * 400 + [1], [0] * 401 + [1], 1),
            ([0] * 400 + [2], [9] * 400 + [1], 1), ([5] * 400, [5] * 400, 0),
        ]:
            self.assertEqual(order(one, other), wanted)
            self.assertEqual(order(other, one), -wanted)

    def test_the_same_list_twice(self):
        row = [3, 1, 4]
        self.assertEqual(order(row, row), 0)

    def test_very_long(self):
        self.assertEqual(order([0] + [7] * 100000, [1] + [7] * 100000), -1)

    def test_nothing_is_changed(self):
        one, other = [1, 2, 3], [3, 2, 1]
        before = copy.deepcopy((one, other))
        order(one, other)
        self.assertEqual((one, other), before)

    def test_refuses_nothing(self):
        self.assertEqual(order([1, 0], [1]), 1)
        self.assertEqual(order([5], [99]), -1)
        self.assertEqual(order([-1], [0]), -1)


if __name__ == "__main__":
    unittest.main()
