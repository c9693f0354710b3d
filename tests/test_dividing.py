"""Points 11 to 13: rows divided by figures and by rows, ladders, rows told by other bases."""

import unittest
from math import gcd

from figrow.dividing import divided, ladder, parted, turned
from figrow.errors import ByNought, NoBase, NoFigure
from tests.samples import BASES, NO_BASES, Case, no_figures, plain_number, plain_row, some_numbers, some_rows


class Parted(Case):
    def held(self, base, row, figure):
        back = parted(base, row, figure)
        self.assertIs(type(back), tuple)
        often, left = back
        self.true_row(base, often)
        self.assertIs(type(left), int)
        number = plain_number(base, row)
        self.assertEqual((plain_number(base, often), left), divmod(number, figure))

    def test_as_told(self):
        self.assertEqual(parted(10, [7, 0, 2, 1], 4), ([1, 0, 3], 3))
        self.assertEqual(parted(10, [8, 0, 2, 1], 4), ([2, 0, 3], 0))
        self.assertEqual(parted(10, [3], 4), ([], 3))
        self.assertEqual(parted(10, [4], 4), ([1], 0))
        self.assertEqual(parted(1000000, [0, 1], 999999), ([1], 1))

    def test_nought_divided(self):
        for base in BASES:
            for figure in [1, base - 1]:
                self.assertEqual(parted(base, [], figure), ([], 0))

    def test_by_one(self):
        for base in BASES:
            for row in some_rows(base):
                self.assertEqual(parted(base, row, 1), (row, 0))

    def test_small_ones(self):
        for base in [2, 3, 10]:
            for number in range(250):
                for figure in range(1, base):
                    self.held(base, plain_row(base, number), figure)

    def test_great_ones(self):
        for base in BASES:
            for number in some_numbers(base):
                for figure in {1, 2, base // 2, base - 1} - {0, base}:
                    self.held(base, plain_row(base, number), figure)

    def test_long_ones(self):
        self.assertEqual(parted(10, [9] * 20000 + [3], 4), ([9] * 20000, 3))
        self.assertEqual(parted(10, [9] * 20000, 9), ([1] * 20000, 0))

    def test_by_nought(self):
        for base in BASES:
            for row in [[], [1], [base - 1] * 9]:
                self.refused(ByNought, parted, base, row, 0)

    def test_what_is_no_figure(self):
        for base in BASES:
            for thing in no_figures(base):
                self.refused(NoFigure, parted, base, [1, 1], thing)
                self.refused(NoFigure, parted, base, [], thing)

    def test_untouched(self):
        for row in [[], [1], [9, 9, 9], [0, 0, 1]]:
            for figure in [1, 2, 9]:
                self.untouched(parted, 10, row, figure)


class Divided(Case):
    def held(self, base, one, other):
        """How often, and what is left, are as the numbers tell, of rows as true rows."""
        back = divided(base, one, other)
        self.assertIs(type(back), tuple)
        often, left = back
        self.true_row(base, often)
        self.true_row(base, left)
        numbers = plain_number(base, one), plain_number(base, other)
        self.assertEqual((plain_number(base, often), plain_number(base, left)), divmod(*numbers))

    def test_as_told(self):
        self.assertEqual(divided(10, [7, 0, 2, 1], [5, 2]), ([8, 4], [7]))
        self.assertEqual(divided(10, [0, 0, 2, 1], [5, 2]), ([8, 4], []))
        self.assertEqual(divided(10, [9, 8, 0, 1], [9, 0, 1]), ([9], [8, 0, 1]))
        self.assertEqual(divided(1000000, [0, 0, 1], [1, 1]), ([999999], [1]))

    def test_nought_divided(self):
        for base in BASES:
            for row in some_rows(base)[1:]:
                self.assertEqual(divided(base, [], row), ([], []))

    def test_by_one_and_by_itself(self):
        for base in BASES:
            for row in some_rows(base)[1:]:
                self.assertEqual(divided(base, row, [1]), (row, []))
                self.assertEqual(divided(base, row, row), ([1], []))

    def test_by_a_greater_row(self):
        for base in BASES:
            for row in some_rows(base):
                self.assertEqual(divided(base, row, row + [1]), ([], row))
        self.assertEqual(divided(10, [8, 9], [9, 9]), ([], [8, 9]))
        self.assertEqual(divided(10, [9, 0, 1], [0, 1, 1]), ([], [9, 0, 1]))

    def test_by_a_row_of_one_figure(self):
        for base in BASES:
            for row in some_rows(base):
                for figure in {1, (base + 1) // 2, base - 1}:
                    often, left = parted(base, row, figure)
                    self.assertEqual(divided(base, row, [figure]), (often, [left] if left else []))

    def test_all_small_ones(self):
        for base, most in [(2, 260), (3, 260), (10, 130)]:
            for one in range(most):
                for other in range(1, 70):
                    self.held(base, plain_row(base, one), plain_row(base, other))

    def test_all_of_three_figures_by_two(self):
        for base in [2, 3, 4, 5]:
            for one in range(base ** 4):
                for other in range(base, base ** 2):
                    self.held(base, plain_row(base, one), plain_row(base, other))

    def test_great_ones(self):
        for base in BASES:
            rows = [plain_row(base, number) for number in some_numbers(base)]
            for some in [rows, some_rows(base)]:
                for one in some:
                    for other in some[1::3]:
                        self.held(base, one, other)

    def test_one_less_than_a_multiple(self):
        # Here the greatest figures alone tell once too often.
        for base in BASES:
            most = base - 1
            long = [1] + [0] * 9 + [1]
            for other in [[most, 0, 1], [most, most, 0, 1], [1, 0, 1], [most] * 4, [most, most, 1], long]:
                number = plain_number(base, other)
                for often in [1, 2, most, base, base * base - 1, base ** 5 - 1, 7 ** 40]:
                    for one in [number * often - 1, number * often, number * often + number - 1]:
                        self.held(base, plain_row(base, one), other)

    def test_leads_back(self):
        for base in BASES:
            for other in some_rows(base)[1:]:
                number = plain_number(base, other)
                for often in [0, 1, base - 1, base ** 7 - 1]:
                    for left in [0, number - 1, number // 2]:
                        back = divided(base, plain_row(base, often * number + left), other)
                        self.assertEqual(back, (plain_row(base, often), plain_row(base, left)))

    def test_long_ones(self):
        self.assertEqual(divided(10, [9] * 3000, [9] * 1000), (([1] + [0] * 999) * 2 + [1], []))
        self.assertEqual(divided(10, [9] * 20000, [9, 9]), ([1, 0] * 9999 + [1], []))
        self.assertEqual(divided(10, [8] * 20000, [0] * 19999 + [1]), ([8], [8] * 19999))

    def test_by_nought(self):
        for base in BASES:
            for row in [[], [1], [base - 1] * 9]:
                self.refused(ByNought, divided, base, row, [])

    def test_untouched(self):
        rows = [[], [1], [2], [0, 1], [9, 9], [5, 0, 5], [9] * 9]
        for one in rows:
            for other in rows[1:] + [one] * bool(one):
                self.untouched(divided, 10, one, other)


class Ladder(Case):
    def held(self, base, one, other):
        """The ladder is that of the numbers, worked out by themselves."""
        back = ladder(base, plain_row(base, one), plain_row(base, other))
        self.assertIs(type(back), tuple)
        steps, last = back
        self.assertIs(type(steps), list)
        for row in steps + [last]:
            self.true_row(base, row)
        self.assertEqual(last, plain_row(base, gcd(one, other)))
        wanted = []
        while other:
            wanted.append(one // other)
            one, other = other, one % other
        self.assertEqual(steps, [plain_row(base, number) for number in wanted])

    def test_as_told(self):
        self.assertEqual(ladder(10, [2, 5, 2], [5, 0, 1]), ([[2], [2], [2]], [1, 2]))
        self.assertEqual(ladder(10, [7], [2]), ([[3], [2]], [1]))
        self.assertEqual(ladder(100, [7, 0, 12], [7]), ([[43, 71, 1], [1], [6]], [1]))

    def test_the_second_nought_at_once(self):
        self.assertEqual(ladder(10, [], []), ([], []))
        for base in BASES:
            for row in some_rows(base):
                self.assertEqual(ladder(base, row, []), ([], row))

    def test_the_first_nought(self):
        for base in BASES:
            for row in some_rows(base)[1:]:
                self.assertEqual(ladder(base, [], row), ([[]], row))

    def test_the_first_less_than_the_second(self):
        self.assertEqual(ladder(10, [2], [7]), ([[], [3], [2]], [1]))
        self.assertEqual(ladder(10, [5, 0, 1], [2, 5, 2]), ([[], [2], [2], [2]], [1, 2]))

    def test_equal_rows(self):
        for base in BASES:
            for row in some_rows(base)[1:]:
                self.assertEqual(ladder(base, row, list(row)), ([[1]], row))
                self.assertEqual(ladder(base, row, row), ([[1]], row))

    def test_multiples_of_a_third(self):
        for base in BASES:
            for third in [base - 1, base, base ** 3 + 1, 7 ** 50]:
                for one, other in [(8, 5), (5, 8), (12, 18), (1, 4), (4, 1), (10 ** 9 + 7, 10 ** 9 + 9)]:
                    self.held(base, third * one, third * other)

    def test_all_small_ones(self):
        for base in [2, 3, 10]:
            for one in range(60):
                for other in range(60):
                    self.held(base, one, other)

    def test_great_ones(self):
        for base in BASES:
            numbers = some_numbers(base)
            for one, other in zip(numbers, numbers[7:] + numbers[:7]):
                self.held(base, one, other)

    def test_many_steps(self):
        one, other = 1, 1
        for _ in range(2400):
            one, other = one + other, one
        steps, last = ladder(10, plain_row(10, one), plain_row(10, other))
        self.assertEqual(steps, [[1]] * 2399 + [[2]])
        self.assertEqual(last, [1])

    def test_untouched(self):
        rows = [[], [1], [2], [0, 1], [9, 9], [2, 5, 2], [5, 0, 1], [9] * 9]
        for one in rows:
            for other in rows + [one]:
                self.untouched(ladder, 10, one, other)


class Turned(Case):
    def test_as_told(self):
        self.assertEqual(turned(10, [7, 0, 2, 1], 100), [7, 12])
        self.assertEqual(turned(100, [7, 0, 12], 10), [7, 0, 0, 0, 2, 1])
        self.assertEqual(turned(10, [0, 1], 2), [0, 1, 0, 1])
        self.assertEqual(turned(2, [0, 1, 0, 1], 1000000), [10])

    def test_nought(self):
        for base in BASES:
            for other in BASES:
                self.assertEqual(turned(base, [], other), [])

    def test_by_itself(self):
        for base in BASES:
            for row in some_rows(base):
                self.assertEqual(turned(base, row, base), row)

    def test_each_base_by_each_other(self):
        for base in BASES:
            for other in BASES + [4, 9, 1000, 65536]:
                for number in some_numbers(base)[::3]:
                    back = turned(base, plain_row(base, number), other)
                    self.true_row(other, back)
                    self.assertEqual(back, plain_row(other, number))

    def test_long_ones(self):
        self.assertEqual(turned(10, [0] * 6000 + [1], 1000000), [0] * 1000 + [1])
        self.assertEqual(turned(1000, [999] * 5000, 10), [9] * 15000)

    def test_the_other_base_is_looked_at_behind_the_row(self):
        for thing in NO_BASES:
            self.refused(NoBase, turned, 10, [1, 1], thing)
            self.refused(NoBase, turned, 10, [], thing)

    def test_untouched(self):
        for row in [[], [1], [9, 9, 9], [0, 0, 1]]:
            for other in [2, 9, 10, 11, 1000000]:
                self.untouched(turned, 10, row, other)


if __name__ == "__main__":
    unittest.main()
