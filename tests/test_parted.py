"""Point 16: the first row of which the truths of two conditions are unlike."""

import itertools
import unittest

from gaprows.alike import parted
from gaprows.errors import BadSentence, BadTop
from tests.oracle import grade
from tests.samples import Sampler

G0, G1 = ("gap", 0), ("gap", 1)
COL, OTHER, NUM = ("col", 0), ("col", 1), ("num", 1)
SO, LESS = ("is", COL, NUM), ("less", COL, OTHER)
TRUE, FALSE = ("is", NUM, NUM), ("less", NUM, NUM)


def rows_in_order(wide, top):
    return itertools.product([G0, G1] + list(range(top + 1)), repeat=wide)


def first_row(one, other, wide, top):
    for row in rows_in_order(wide, top):
        if grade(one, row) != grade(other, row):
            return row
    return None


class FirstRows(unittest.TestCase):
    def test_gaps_stand_ahead_of_numbers(self):
        for top in range(4):
            self.assertEqual(parted(TRUE, FALSE, 1, top), (G0,))
            self.assertEqual(parted(("lacks", COL), FALSE, 1, top), (G0,))
            self.assertEqual(parted(("lacks", COL), TRUE, 1, top), (0,))
            self.assertEqual(parted(("is", COL, OTHER), ("true", ("is", COL, OTHER)), 2, top), (G0, G1))
            self.assertEqual(parted(("is", COL, OTHER), ("is", OTHER, ("col", 2)), 3, top), (G0, G0, G1))

    def test_numbers_ascend_to_top(self):
        for top in range(4):
            for number in range(4):
                two = ("is", COL, ("num", number)), ("and", ("is", COL, NUM), ("less", COL, COL))
                known = [("and", ("not", ("lacks", COL)), one) for one in two]
                self.assertEqual(parted(*known, 1, top), (number,) if number <= top else None)

    def test_the_last_column_goes_up_first(self):
        known = [("and", ("not", ("lacks", ("plus", COL, OTHER))), one) for one in (TRUE, FALSE)]
        self.assertEqual(parted(*known, 2, 3), (0, 0))
        lesser = ("and", known[0], LESS)
        self.assertEqual(parted(lesser, known[1], 2, 3), (0, 1))
        self.assertEqual(parted(("and", known[0], ("less", OTHER, COL)), known[1], 2, 3), (1, 0))
        self.assertEqual(parted(("and", known[0], ("less", ("num", 4), ("plus", COL, OTHER))), known[1], 2, 3), (2, 3))

    def test_all_truths_are_told_apart(self):
        unknown = ("is", COL, NUM)
        for one, other in itertools.permutations((TRUE, FALSE, unknown), 2):
            self.assertEqual(parted(one, other, 1, 2), (G0,))
        self.assertEqual(parted(("true", unknown), unknown, 1, 0), (G0,))
        self.assertEqual(parted(("not", ("true", ("not", unknown))), unknown, 1, 0), (G0,))

    def test_as_wide_as_told(self):
        for wide in range(1, 5):
            self.assertEqual(parted(TRUE, FALSE, wide, 3), (G0,) * wide)
            last = ("lacks", ("col", wide - 1))
            self.assertEqual(parted(last, TRUE, wide, 3), (G0,) * (wide - 1) + (0,))
            self.assertIsNone(parted(last, last, wide, 3))

    def test_numbers_beyond_top_are_not_gone_through(self):
        beyond = ("is", COL, ("num", 3))
        never = ("is", COL, ("num", 99))
        for top in range(3):
            self.assertIsNone(parted(beyond, never, 1, top))
        self.assertEqual(parted(beyond, never, 1, 3), (3,))

    def test_what_is_told_of_a_row(self):
        row = parted(SO, ("true", SO), 3, 1)
        self.assertEqual(row, (G0, G0, G0))
        self.assertIs(type(row), tuple)


class Rules(unittest.TestCase):
    CONDITIONS = (SO, LESS, ("lacks", OTHER), ("is", COL, OTHER), TRUE, FALSE, ("true", LESS))

    def same(self, one, other):
        for top in (0, 2):
            self.assertIsNone(parted(one, other, 2, top), (one, other))
            self.assertIsNone(parted(other, one, 2, top), (one, other))

    def test_of_one(self):
        for one in self.CONDITIONS:
            self.same(one, one)
            self.same(one, ("not", ("not", one)))
            self.same(one, ("and", one, one))
            self.same(one, ("or", one, one))
            self.same(one, ("and", one, TRUE))
            self.same(one, ("or", one, FALSE))
            self.same(FALSE, ("and", one, FALSE))
            self.same(TRUE, ("or", TRUE, one))

    def test_of_two(self):
        for one, other in itertools.product(self.CONDITIONS, repeat=2):
            for word, turned in (("and", "or"), ("or", "and")):
                self.same((word, one, other), (word, other, one))
                self.same(("not", (word, one, other)), (turned, ("not", one), ("not", other)))
                self.same(one, (word, one, (turned, one, other)))

    def test_of_three(self):
        for one, other, third in itertools.product(self.CONDITIONS[:4], repeat=3):
            for word, turned in (("and", "or"), ("or", "and")):
                self.same((word, (word, one, other), third), (word, one, (word, other, third)))
                self.same((word, one, (turned, other, third)), (turned, (word, one, other), (word, one, third)))

    def test_what_is_no_rule_of_three_truths(self):
        self.assertEqual(parted(("or", SO, ("not", SO)), TRUE, 1, 2), (G0,))
        self.assertEqual(parted(("and", SO, ("not", SO)), FALSE, 1, 2), (G0,))
        self.assertEqual(parted(("not", ("less", COL, OTHER)), ("or", ("less", OTHER, COL), ("is", COL, OTHER)), 2, 1),
                         None)
        self.assertEqual(parted(("is", COL, OTHER), ("is", ("plus", COL, NUM), ("plus", OTHER, NUM)), 2, 1), (G0, G0))


class Compared(unittest.TestCase):
    def test_many_conditions(self):
        sampler = Sampler(53)
        met = []
        for _ in range(1200):
            wide, top = sampler.dice.randint(1, 4), sampler.dice.randint(0, 3)
            one, other = sampler.condition(min(wide, 2), 2), sampler.condition(wide, 1)
            row = parted(one, other, wide, top)
            self.assertEqual(row, first_row(one, other, wide, top), (one, other, wide, top))
            met.append(row)
        self.assertGreater(met.count(None), 20)
        self.assertGreater(len(set(met)), 40)

    def test_conditions_that_part_late(self):
        for wide in (1, 2, 3, 4):
            for top in (0, 1, 2, 3):
                for row in list(rows_in_order(wide, top))[::7]:
                    just = TRUE
                    for at, cell in enumerate(row):
                        column = ("col", at)
                        is_cell = ("lacks", column) if isinstance(cell, tuple) else ("is", column, ("num", cell))
                        just = ("and", just, ("true", is_cell))
                    expected = tuple(G0 if isinstance(cell, tuple) else cell for cell in row)
                    self.assertEqual(parted(just, FALSE, wide, top), expected)


class Refused(unittest.TestCase):
    def place(self, at, why, *handed):
        with self.assertRaises(BadSentence) as caught:
            parted(*handed)
        self.assertEqual((caught.exception.at, caught.exception.why), (at, why))

    def test_tops(self):
        for top in (-1, 4, 5, 9, 10, -4, 100):
            for wide in (1, 4):
                with self.assertRaises(BadTop):
                    parted(SO, SO, wide, top)
        for top in range(4):
            parted(SO, SO, 1, top)

    def test_columns_beyond_wide(self):
        for wide in range(1, 5):
            for column in (wide, wide + 1, -1):
                beyond = ("not", ("lacks", ("col", column)))
                self.place(2, "column", beyond, SO, wide, 0)
                self.place(2, "column", SO, beyond, wide, 0)

    def test_which_is_refused_first(self):
        for top in (2, 4, -1):
            self.place(1, "column", ("lacks", ("col", 3)), None, 3, top)
            self.place(0, "shape", None, ("lacks", ("col", 3)), 3, top)
            self.place(0, "shape", SO, None, 3, top)
            self.place(4, "number", ("and", ("lacks", COL), ("lacks", ("num", 100))), ("is",), 3, top)
            # Things are numbered anew in the second one.
            self.place(2, "number", SO, ("less", COL, ("num", 100)), 3, top)

    def test_sixty_things_each(self):
        deep = SO
        for _ in range(57):
            deep = ("not", deep)
        self.assertIsNone(parted(deep, deep, 1, 1))
        self.place(60, "many", ("not", deep), None, 1, 9)
        self.place(60, "many", deep, ("not", deep), 1, 9)


if __name__ == "__main__":
    unittest.main()
