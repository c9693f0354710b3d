"""Point 14: rows written as texts, and texts read to rows."""

import itertools
import re
import unittest

from figrow.errors import NoRow
from figrow.texts import read, written
from tests.samples import BASES, NO_LISTS, Case, plain_row, some_numbers, some_rows

NO_TEXTS = [thing for thing in NO_LISTS if not isinstance(thing, str)] + [[], [1], ["1"], bytearray(b"1")]


class Written(Case):
    def test_as_told(self):
        for base, row, line in [
            (100, [7, 0, 12], "12.0.7"), (10, [], "0"), (10, [7], "7"), (2, [1], "1"), (2, [0, 1, 0, 1], "1.0.1.0"),
            (1000000, [999999], "999999"), (1000000, [0, 0, 100000], "100000.0.0"), (1000000, [10, 100, 1], "1.100.10"),
        ]:
            back = written(base, row)
            self.assertIs(type(back), str)
            self.assertEqual(back, line)

    def test_nought_in_each_base(self):
        for base in BASES:
            self.assertEqual(written(base, []), "0")

    def test_each_figure(self):
        for base in [2, 10, 11, 1000]:
            for figure in range(1, base):
                self.assertEqual(written(base, [figure]), str(figure))

    def test_very_long(self):
        self.assertEqual(written(100, [12, 0] * 20000 + [5]), "5" + ".0.12" * 20000)

    def test_nothing_is_changed(self):
        for row in [[], [1], [7, 0, 12]]:
            before = list(row)
            written(100, row)
            self.assertEqual(row, before)


class Read(Case):
    def test_as_told(self):
        for base, line, row in [
            (100, "12.0.7", [7, 0, 12]), (10, "0", []), (10, "7", [7]), (2, "1", [1]), (2, "1.0.1.0", [0, 1, 0, 1]),
            (1000000, "999999", [999999]), (1000000, "100000.0.0", [0, 0, 100000]), (11, "10.10", [10, 10]),
        ]:
            back = read(base, line)
            self.true_row(base, back)
            self.assertEqual(back, row)

    def test_nought_in_each_base(self):
        for base in BASES:
            self.assertEqual(read(base, "0"), [])

    def test_back_and_forth(self):
        for base in BASES:
            rows = some_rows(base) + [plain_row(base, number) for number in some_numbers(base)]
            for row in rows:
                back = read(base, written(base, row))
                self.true_row(base, back)
                self.assertEqual(back, row)

    def test_very_long(self):
        self.assertEqual(read(100, "5" + ".0.12" * 20000), [12, 0] * 20000 + [5])

    def test_each_list_is_a_new_one(self):
        for line in ["0", "7", "1.0.2"]:
            self.untouched(read, 10, line)

    def test_all_short_texts(self):
        for base, good in [(2, re.compile(r"1(\.[01])*")), (3, re.compile(r"[12](\.[012])*"))]:
            for many in range(7):
                for signs in itertools.product("012.", repeat=many):
                    line = "".join(signs)
                    if line == "0":
                        self.assertEqual(read(base, line), [])
                    elif good.fullmatch(line):
                        self.assertEqual(read(base, line), [int(sign) for sign in line[::-2]])
                    else:
                        self.refused(NoRow, read, base, line)


class NoTexts(Case):
    def no_row(self, *lines, bases=(2, 10, 16, 1000000)):
        for base in bases:
            for line in lines:
                self.refused(NoRow, read, base, line)

    def test_what_is_no_text(self):
        self.no_row(*NO_TEXTS)

    def test_the_empty_text(self):
        self.no_row("")

    def test_points(self):
        self.no_row(".", "..", ".1", "1.", "1..1", "1.1.", ".1.1", "1...1", "0.", ".0", "." * 5000, "1." * 5000)

    def test_a_nought_ahead_of_other_signs(self):
        self.no_row("00", "01", "1.01", "1.00", "1.000.1", "007", "1.1.01", "1.00000001")
        self.no_row("0" * 70, "1." + "0" * 70 + "1")

    def test_the_first_figure_nought(self):
        self.no_row("0.1", "0.0", "0.1.1", "0.0.1", "0.0.0")

    def test_figures_that_are_not_below_the_base(self):
        self.no_row("2", "1.2", "2.1", "1.2.1", "10", bases=[2])
        self.no_row("10", "1.10", "10.1", "1.11.1", "99", bases=[10])
        self.no_row("16", "1.16", "16.0", bases=[16])
        self.no_row("1000000", "1.1000000", "1000000.1", "9999999", bases=[1000000])
        self.no_row("1000000", "1.1000000", "10000000000")

    def test_many_signs(self):
        for many in [7, 59, 60, 61, 62, 3999, 4000, 4300, 4301, 20000]:
            self.no_row("1" * many, "1." + "9" * many, "9" * many + ".1", "0" * many)

    def test_other_signs(self):
        for sign in " \n\t\r\v\f+-_,;:/eExXaAfF~!'\"()[]":
            self.no_row(sign, sign + "1", "1" + sign, "1" + sign + "1", "1.1" + sign, "1." + sign, sign + "1.1")
            self.no_row("1." + sign + "1", "1" + sign + ".1", sign + "0", "0" + sign)
            self.no_row("1.0" + sign + "0", "1." + sign + ".1")
        self.no_row("1_0.1", "0x1", "1e1", "+1", "-1", "1.-0", "1.+1", "-0", " 0", "0 ", "1 .1", "0b1", "1\r\n")

    def test_digits_of_other_scripts(self):
        self.no_row("\u0661", "1.\u0661", "\u00b2", "1.\u00b9", "\uff11", "\u0660", "1\uff0e1")


if __name__ == "__main__":
    unittest.main()
