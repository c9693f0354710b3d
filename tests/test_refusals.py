"""Points 1 and 5 over the whole program: what is looked at first, what refuses it, what stays as it was."""

import copy
import itertools
import unittest

from figrow.adding import added, scaled, shifted, taken
from figrow.dividing import divided, ladder, parted, turned
from figrow.errors import BelowNought, ByNought, NoBase, NoCount, NoFigure, NoRow
from figrow.halves import effort, product, slow
from figrow.rows import is_figure, is_row, number_of, order, row_of, trimmed
from figrow.texts import read, written
from tests.samples import NO_BASES, NO_LISTS, NO_WHOLE_NUMBERS, Case, lists_within, no_figures, no_rows

BASE = 10
NO_TEXTS = [thing for thing in NO_LISTS if not isinstance(thing, str)] + [[], [1], "", "01", "1.", "0.1", "10", "+1"]

# Of each kind of argument: the refusal of what is none, and all sorts of such.
KINDS = {
    "base": (NoBase, NO_BASES),
    "row": (NoRow, no_rows(BASE)),
    "figure": (NoFigure, no_figures(BASE)),
    "number": (NoCount, NO_WHOLE_NUMBERS),
    "places": (NoCount, NO_WHOLE_NUMBERS + [-1, -2, -(10 ** 5000)]),
    "least": (NoCount, NO_WHOLE_NUMBERS + [2, 1, 0, -1, -(10 ** 5000)]),
    "line": (NoRow, NO_TEXTS),
}

# A few of them, for two wrong things at once.
FEW = {
    "base": [1, 1000001, True, None, "10"],
    "row": [None, [10], [1, 0], (1,)],
    "figure": [10, -1, None, True],
    "number": [None, True, "1"],
    "places": [-1, None, False],
    "least": [2, None, True],
    "line": ["", "01", None, 1],
}

# Of each function that takes a base: the kinds of its arguments, and good ones.
FUNCTIONS = [
    (row_of, ["base", "number"], [BASE, 12]),
    (number_of, ["base", "row"], [BASE, [2, 1]]),
    (added, ["base", "row", "row"], [BASE, [2, 1], [5]]),
    (taken, ["base", "row", "row"], [BASE, [2, 1], [5]]),
    (scaled, ["base", "row", "figure"], [BASE, [2, 1], 5]),
    (shifted, ["base", "row", "places"], [BASE, [2, 1], 5]),
    (slow, ["base", "row", "row"], [BASE, [2, 1], [5]]),
    (product, ["base", "row", "row", "least"], [BASE, [2, 1] * 4, [0, 5] * 3, 3]),
    (effort, ["base", "row", "row", "least"], [BASE, [2, 1] * 4, [0, 5] * 3, 3]),
    (parted, ["base", "row", "figure"], [BASE, [2, 1], 5]),
    (divided, ["base", "row", "row"], [BASE, [2, 1] * 3, [0, 5]]),
    (ladder, ["base", "row", "row"], [BASE, [2, 1] * 3, [0, 5]]),
    (turned, ["base", "row", "base"], [BASE, [2, 1], 7]),
    (written, ["base", "row"], [BASE, [2, 1]]),
    (read, ["base", "line"], [BASE, "1.2"]),
]

# What cannot be done with good things, by the function and the rest behind the base.
IMPOSSIBLE = [
    (BelowNought, row_of, [-1]),
    (BelowNought, taken, [[1], [2]]),
    (BelowNought, taken, [[], [1]]),
    (ByNought, parted, [[1], 0]),
    (ByNought, parted, [[], 0]),
    (ByNought, divided, [[1], []]),
    (ByNought, divided, [[], []]),
]


def with_wrong(good, at, thing):
    """The good things with a wrong one at a place."""
    return [*good[:at], thing, *good[at + 1:]]


class OneWrongThing(Case):
    def test_each_sort_at_each_place(self):
        for function, kinds, good in FUNCTIONS:
            for at, kind in enumerate(kinds):
                refusal, things = KINDS[kind]
                for thing in things:
                    self.refused(refusal, function, *with_wrong(good, at, thing))

    def test_what_only_takes_a_base(self):
        for thing in NO_BASES:
            self.refused(NoBase, is_figure, thing, 1)
            self.refused(NoBase, is_row, thing, [1])


class SeveralWrongThings(Case):
    def test_the_first_one_is_refused(self):
        for function, kinds, good in FUNCTIONS:
            for first, second in itertools.combinations(range(len(kinds)), 2):
                for one in FEW[kinds[first]]:
                    for other in FEW[kinds[second]]:
                        handed = with_wrong(with_wrong(good, first, one), second, other)
                        self.refused(KINDS[kinds[first]][0], function, *handed)

    def test_all_wrong(self):
        for function, kinds, good in FUNCTIONS:
            self.refused(NoBase, function, *[None for _ in kinds])
            self.refused(KINDS[kinds[1]][0], function, BASE, *[None for _ in kinds[1:]])


class Impossible(Case):
    def test_refused_where_all_is_good(self):
        for refusal, function, rest in IMPOSSIBLE:
            for base in [3, 10, 1000000]:
                self.refused(refusal, function, base, *rest)

    def test_a_wrong_thing_goes_first(self):
        for _, function, rest in IMPOSSIBLE:
            for thing in FEW["base"]:
                self.refused(NoBase, function, thing, *rest)
        for thing in FEW["row"]:
            self.refused(NoRow, parted, BASE, thing, 0)
            self.refused(NoRow, divided, BASE, thing, [])
        self.refused(NoRow, divided, BASE, [1], [0])
        self.refused(NoRow, divided, BASE, [1], [0, 0])
        self.refused(NoRow, taken, BASE, [], [1, 0])
        self.refused(NoFigure, parted, BASE, [1], False)

    def test_never_where_the_document_does_not_say_it(self):
        self.assertEqual(ladder(BASE, [1], []), ([], [1]))
        self.assertEqual(product(BASE, [], [], 3), [])
        self.assertEqual(scaled(BASE, [1], 0), [])
        self.assertEqual(order([], [1]), -1)
        self.assertEqual(trimmed([0]), [])


class Untouched(Case):
    def test_each_function(self):
        for function, _, good in FUNCTIONS + [(trimmed, ["figures"], [[1, 0, 0]])]:
            before = copy.deepcopy(good)
            back = function(*good)
            self.assertEqual(good, before)
            if lists_within(back):
                self.untouched(function, *good)

    def test_the_same_list_as_both_rows(self):
        for function, kinds, good in FUNCTIONS:
            if kinds.count("row") == 2:
                for row in [[7], [5, 0, 1], [9] * 8]:
                    handed = [BASE, row, row, *good[3:]]
                    before = copy.deepcopy(handed)
                    wanted = function(BASE, list(row), list(row), *good[3:])
                    self.assertEqual(function(*handed), wanted)
                    self.assertEqual(handed, before)

    def test_what_is_refused_is_unchanged_too(self):
        for function, kinds, good in FUNCTIONS:
            for at in range(len(kinds)):
                handed = with_wrong(copy.deepcopy(good), at, None)
                before = copy.deepcopy(handed)
                self.refused(KINDS[kinds[at]][0], function, *handed)
                self.assertEqual(handed, before)


if __name__ == "__main__":
    unittest.main()
