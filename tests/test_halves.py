"""Points 7 to 10: products the slow way and by halves, and the effort of the latter."""

import unittest
from unittest import mock

from figrow import halves
from figrow.errors import NoCount
from figrow.halves import LEAST, effort, product, slow
from tests.samples import BASES, NO_WHOLE_NUMBERS, Case, plain_number, plain_row, some_numbers, some_rows

LEASTS = [3, 4, 5, 8, 16, 1000, 10 ** 5000]


def plain_effort(base, one, other, least):
    """The effort by the words of points 8 and 9, of the numbers themselves, for comparison."""
    figures = len(plain_row(base, one)), len(plain_row(base, other))
    if min(figures) <= least:
        return figures[0] * figures[1]
    step = base ** ((max(figures) + 1) // 2)
    total = plain_effort(base, one % step, other % step, least)
    total += plain_effort(base, one // step, other // step, least)
    return total + plain_effort(base, one % step + one // step, other % step + other // step, least)


class Products(Case):
    def held(self, base, one, other, least):
        """Both ways give the row of the product of these numbers."""
        rows = plain_row(base, one), plain_row(base, other)
        wanted = plain_row(base, one * other)
        self.assertEqual(slow(base, *rows), wanted)
        self.assertEqual(product(base, *rows, least), wanted)

    def test_as_told(self):
        for back in [slow(10, [5, 2], [4, 3]), product(10, [5, 2], [4, 3], 3)]:
            self.assertEqual(back, [0, 5, 8])
        one, other = [4, 3, 2, 1], [8, 7, 6, 5]
        for back in [slow(10, one, other), product(10, one, other, 3)]:
            self.assertEqual(back, [2, 5, 6, 6, 0, 0, 7])
        self.assertEqual(slow(1000000, [999999], [999999]), [1, 999998])
        self.assertEqual(product(2, [1] * 4, [1] * 4, 3), [1, 0, 0, 0, 0, 1, 1, 1])

    def test_nought(self):
        for base in BASES:
            for row in some_rows(base):
                for one, other in [(row, []), ([], row)]:
                    self.assertEqual(slow(base, one, other), [])
                    self.assertEqual(product(base, one, other, 3), [])

    def test_one(self):
        for base in BASES:
            for row in some_rows(base):
                for one, other in [(row, [1]), ([1], row)]:
                    self.assertEqual(slow(base, one, other), row)
                    self.assertEqual(product(base, one, other, 3), row)

    def test_all_small_ones(self):
        for base in [2, 3, 10]:
            for one in range(40):
                for other in range(40):
                    self.held(base, one, other, 3)

    def test_all_of_four_and_five_figures_of_base_two(self):
        for one in range(8, 32):
            for other in range(8, 32):
                self.held(2, one, other, 3)

    def test_great_ones(self):
        for base in BASES:
            numbers = some_numbers(base)
            for at, (one, other) in enumerate(zip(numbers, numbers[7:] + numbers[:7])):
                self.held(base, one, other, LEASTS[at % len(LEASTS)])

    def test_rows_of_all_lengths(self):
        for base in [2, 10, 1000000]:
            rows = some_rows(base)
            for one in rows:
                for other in rows[::3]:
                    wanted = plain_row(base, plain_number(base, one) * plain_number(base, other))
                    for least in [3, 5]:
                        back = product(base, one, other, least)
                        self.true_row(base, back)
                        self.assertEqual(back, wanted)
                    back = slow(base, one, other)
                    self.true_row(base, back)
                    self.assertEqual(back, wanted)

    def test_every_least(self):
        for base in BASES:
            one, other = [base - 1] * 21, [base - 1, 0] * 6 + [1]
            wanted = plain_row(base, plain_number(base, one) * plain_number(base, other))
            for least in list(range(3, 30)) + [10 ** 5000]:
                self.assertEqual(product(base, one, other, least), wanted)
                self.assertEqual(product(base, other, one, least), wanted)

    def test_base_less_one_throughout(self):
        for base in BASES:
            for many in [1, 3, 4, 5, 8, 40, 129]:
                row = [base - 1] * many
                # The square of a power less one is the power's square less two powers, and one.
                wanted = [1] + [0] * (many - 1) + [base - 2] + [base - 1] * (many - 1)
                while wanted[-1] == 0:
                    wanted.pop()
                self.assertEqual(slow(base, row, row), wanted)
                self.assertEqual(product(base, row, row, 3), wanted)

    def test_long_ones(self):
        row = [9] * 2000
        wanted = [1] + [0] * 1999 + [8] + [9] * 1999
        self.assertEqual(product(10, row, row, 3), wanted)
        self.assertEqual(slow(10, row[:400], row[:400]), [1] + [0] * 399 + [8] + [9] * 399)

    def test_very_unlike_lengths(self):
        one, other = [7, 0, 0, 3], [9] * 20000
        wanted = plain_row(10, 3007 * (10 ** 20000 - 1))
        for rows in [(one, other), (other, one)]:
            self.assertEqual(product(10, *rows, 3), wanted)
            self.assertEqual(slow(10, *rows), wanted)
        self.assertEqual(slow(10, [2], [4] * 100000), [8] * 100000)
        self.assertEqual(product(10, [4] * 100000, [2], 3), [8] * 100000)


class Effort(Case):
    def counted(self, one, other, least, wanted):
        """The effort of these rows of base 10, either way round."""
        for back in [effort(10, one, other, least), effort(10, other, one, least)]:
            self.assertIs(type(back), int)
            self.assertEqual(back, wanted)

    def test_the_slow_way(self):
        self.counted([], [], 3, 0)
        self.counted([], [1] * 9, 3, 0)
        self.counted([5], [7], 3, 1)
        self.counted([1, 1, 1], [1, 1, 1], 3, 9)
        self.counted([1, 1, 1], [1] * 10, 3, 30)
        self.counted([0, 0, 1], [0, 0, 0, 0, 1], 3, 15)

    def test_cut_once(self):
        self.counted([1] * 4, [1] * 4, 3, 4 + 4 + 4)
        # 99 by 99, 99 by 99, 198 by 198.
        self.counted([9] * 4, [9] * 4, 3, 4 + 4 + 9)
        # 99 by 11, 99 by 11, 198 by 22.
        self.counted([9] * 4, [1] * 4, 3, 4 + 4 + 6)

    def test_an_odd_number_of_figures(self):
        # 111 by 111, 11 by 11, 122 by 122.
        self.counted([1] * 5, [1] * 5, 3, 9 + 4 + 9)
        # 111 by 111, 11 by 1, 122 by 112.
        self.counted([1] * 5, [1] * 4, 3, 9 + 2 + 9)
        # 1111 by 1111, 111 by nought, 1222 by 1111; the first and the third one are cut again.
        self.counted([1] * 7, [1] * 4, 3, 12 + 0 + 12)

    def test_sums_that_are_cut_again(self):
        # 999 by 999, 99 by 99, 1098 by 1098: of these 98 by 98, 10 by 10, 108 by 108.
        self.counted([9] * 5, [9] * 5, 3, 9 + 4 + (4 + 4 + 9))

    def test_parts_that_are_nought_or_have_noughts_at_their_end(self):
        # nought by nought, 11 by 11, 11 by 11.
        self.counted([0, 0, 1, 1], [0, 0, 1, 1], 3, 0 + 4 + 4)
        # nought by 11, 11 by 11, 11 by 22.
        self.counted([0, 0, 1, 1], [1, 1, 1, 1], 3, 0 + 4 + 4)
        # 1 by 1, 11 by 11, 12 by 12.
        self.counted([1, 0, 1, 1], [1, 0, 1, 1], 3, 1 + 4 + 4)
        # 1 by nought, 1000 by 1000, 1001 by 1000: of these nought by nought, 10 by 10, 10 by 10,
        # and 1 by nought, 10 by 10, 11 by 10.
        self.counted([1, 0, 0, 0, 0, 0, 0, 1], [0, 0, 0, 0, 0, 0, 0, 1], 3, 0 + (0 + 4 + 4) + (0 + 4 + 4))

    def test_unlike_lengths(self):
        # 1111 by 1111, nought by 1111, 1111 by 2222.
        self.counted([1] * 4, [1] * 8, 3, 12 + 0 + 12)
        # 111 by 111, 11 by 111, 122 by 222.
        self.counted([1] * 5, [1] * 6, 3, 9 + 6 + 9)

    def test_the_least_about_the_shorter_one(self):
        self.counted([1] * 5, [1] * 6, 4, 24)
        self.counted([1] * 5, [1] * 6, 5, 30)
        self.counted([1] * 5, [1] * 6, 6, 30)
        self.counted([1] * 4, [1] * 8, 3, 24)
        self.counted([1] * 4, [1] * 8, 4, 32)
        self.counted([1] * 4, [1] * 8, 10 ** 5000, 32)

    def test_held_against_the_numbers(self):
        for base in [2, 10, 1000000]:
            rows = some_rows(base)
            for one in rows[::2]:
                for other in rows[::3]:
                    for least in [3, 4, 8]:
                        numbers = plain_number(base, one), plain_number(base, other)
                        self.assertEqual(effort(base, one, other, least), plain_effort(base, *numbers, least))

    def test_every_least_held_against_the_numbers(self):
        for base in BASES:
            one, other = 7 ** 90 * base ** 10, 3 ** 300
            for least in list(range(3, 40)) + [10 ** 5000]:
                back = effort(base, plain_row(base, one), plain_row(base, other), least)
                self.assertEqual(back, plain_effort(base, one, other, least))

    def test_less_than_the_slow_way(self):
        row = [1] * 256
        # Seven cuts lead from 256 figures to 2; no sum is longer, as its figures stay below 1000.
        self.assertEqual(effort(1000, row, row, 3), 4 * 3 ** 7)
        self.assertEqual(effort(1000, row, row, 256), 256 * 256)


class TheWayTaken(Case):
    def products_of_figures(self, base, one, other, least):
        """How many products of two figures product really takes."""
        with mock.patch.object(halves, "by_figures", wraps=halves.by_figures) as taken:
            product(base, one, other, least)
        return sum(len(call.args[1]) * len(call.args[2]) for call in taken.call_args_list)

    def test_as_many_products_as_the_effort(self):
        for base in [2, 10, 1000000]:
            rows = some_rows(base)
            for one in rows[::5]:
                for other in rows[1::7]:
                    for least in [3, 4, 6, 1000]:
                        wanted = effort(base, one, other, least)
                        self.assertEqual(self.products_of_figures(base, one, other, least), wanted)


class Least(Case):
    def test_the_least_of_all(self):
        self.assertEqual(LEAST, 3)
        self.assertEqual(product(10, [1, 1], [1, 1], LEAST), [1, 2, 1])
        self.assertEqual(effort(10, [1, 1], [1, 1], LEAST), 4)

    def test_what_is_no_least(self):
        for thing in NO_WHOLE_NUMBERS + [2, 1, 0, -1, -3, -(10 ** 5000)]:
            for one, other in [([], []), ([1], [1]), ([1] * 9, [1] * 9)]:
                self.refused(NoCount, product, 10, one, other, thing)
                self.refused(NoCount, effort, 10, one, other, thing)


class Untouched(Case):
    def test_both_ways(self):
        rows = [[], [1], [9, 9], [0, 0, 0, 1], [9] * 9, [1, 0, 0, 0, 0, 1]]
        for one in rows:
            for other in rows + [one]:
                self.untouched(slow, 10, one, other)
                self.untouched(product, 10, one, other, 3)
                self.untouched(product, 10, one, other, 5)

    def test_effort(self):
        one, other = [9] * 9, [0, 0, 0, 0, 1]
        effort(10, one, other, 3)
        self.assertEqual((one, other), ([9] * 9, [0, 0, 0, 0, 1]))

    def test_a_row_and_itself(self):
        row = [9] * 9
        self.assertEqual(product(10, row, row, 3), plain_row(10, (10 ** 9 - 1) ** 2))
        self.assertEqual(slow(10, row, row), plain_row(10, (10 ** 9 - 1) ** 2))
        self.assertEqual(row, [9] * 9)


if __name__ == "__main__":
    unittest.main()
