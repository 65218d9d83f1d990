"""Points 14 and 15: sums over all fillings, and without any."""

import unittest

from gaprows.errors import BadColumn, BadSentence, BadTables, BadTop, TooMany
from gaprows.sums import spans, totals
from tests.oracle import graded, names_in, worlds
from tests.samples import Sampler

G0, G1 = ("gap", 0), ("gap", 1)
R0, R1 = ("rows", 0), ("rows", 1)
COL, OTHER = ("col", 0), ("col", 1)


def is_num(column, number):
    return ("is", ("col", column), ("num", number))


def summed(rows, key, column, number):
    return sum(row[column] for row in rows if row[key] == number)


def all_totals(sentence, tables, top, key, column):
    told = [rows for _, rows in worlds(sentence, tables, top)]
    keys = sorted({row[key] for rows in told for row in rows})
    sums = {number: [summed(rows, key, column, number) for rows in told] for number in keys}
    return [(number, min(sums[number]), max(sums[number])) for number in keys]


def all_spans(sentence, tables, top, key, column):
    """By each number in turn, whether a cell may be it and surely is it."""
    found = []
    rows = graded(sentence, tables)
    for number in range(100):
        low = high = 0
        met = False
        for row, truth in rows:
            cell, worth = row[key], row[column]
            is_gap = isinstance(cell, tuple)
            if cell == number or is_gap and number <= top:
                met = True
                high += top if isinstance(worth, tuple) else worth
            if truth == 2 and (cell == number or is_gap and number == top == 0):
                low += 0 if isinstance(worth, tuple) else worth
        if met:
            found.append((number, low, high))
    return found


class Totals(unittest.TestCase):
    def test_tables_without_gaps(self):
        tables = [(2, [(3, 10), (1, 7), (3, 99), (2, 0), (1, 7)])]
        for top in (0, 9):
            self.assertEqual(totals(R0, tables, top, 0, 1), [(1, 14, 14), (2, 0, 0), (3, 109, 109)])
            self.assertEqual(totals(R0, tables, top, 1, 0), [(0, 2, 2), (7, 2, 2), (10, 3, 3), (99, 3, 3)])
            self.assertEqual(totals(R0, tables, top, 0, 0), [(1, 2, 2), (2, 2, 2), (3, 6, 6)])

    def test_no_rows(self):
        self.assertEqual(totals(R0, [(1, [])], 4, 0, 0), [])
        self.assertEqual(totals(("keep", R0, is_num(0, 5)), [(1, [(G0,)])], 4, 0, 0), [])

    def test_gaps_in_the_column(self):
        tables = [(2, [(1, G0), (1, 5), (2, G0), (1, G1), (1, G0)])]
        self.assertEqual(totals(R0, tables, 3, 0, 1), [(1, 5, 14), (2, 0, 3)])
        self.assertEqual(totals(R0, tables, 0, 0, 1), [(1, 5, 5), (2, 0, 0)])

    def test_gaps_in_the_key_column(self):
        tables = [(2, [(G0, 5), (1, 7), (G1, 2)])]
        self.assertEqual(totals(R0, tables, 2, 0, 1), [(0, 0, 7), (1, 7, 14), (2, 0, 7)])
        self.assertEqual(totals(R0, tables, 0, 0, 1), [(0, 7, 7), (1, 7, 7)])

    def test_a_gap_as_its_own_key(self):
        tables = [(2, [(G0, G0)])]
        for key, column in ((0, 1), (1, 0), (0, 0)):
            self.assertEqual(totals(R0, tables, 3, key, column), [(number, 0, number) for number in range(4)])

    def test_of_one_name_in_several_rows(self):
        tables = [(2, [(1, G0), (1, G0), (G0, 50)])]
        self.assertEqual(totals(R0, tables, 3, 0, 1), [(0, 0, 50), (1, 0, 52), (2, 0, 50), (3, 0, 50)])
        less = ("keep", R0, ("less", COL, OTHER))
        self.assertEqual(totals(less, tables, 3, 0, 1), [(0, 0, 50), (1, 0, 50), (2, 0, 50), (3, 0, 50)])

    def test_rows_alike_count_each(self):
        tables = [(2, [(4, 6), (4, 6), (4, 6)])]
        self.assertEqual(totals(R0, tables, 1, 0, 1), [(4, 18, 18)])
        self.assertEqual(totals(("both", R0, R0), tables, 1, 0, 1), [(4, 36, 36)])

    def test_rows_that_are_not_there_by_all_fillings(self):
        tables = [(3, [(1, 5, G0), (1, 6, G1)])]
        kept = ("keep", R0, is_num(2, 2))
        self.assertEqual(totals(kept, tables, 2, 0, 1), [(1, 0, 11)])
        self.assertEqual(totals(kept, tables, 1, 0, 1), [])

    def test_a_key_rows_of_which_come_to_0(self):
        self.assertEqual(totals(R0, [(2, [(7, 0)])], 1, 0, 1), [(7, 0, 0)])


class Spans(unittest.TestCase):
    def test_tables_without_gaps(self):
        tables = [(2, [(3, 10), (1, 7), (3, 99), (2, 0), (1, 7)])]
        for top in (0, 9):
            self.assertEqual(spans(R0, tables, top, 0, 1), [(1, 14, 14), (2, 0, 0), (3, 109, 109)])
            self.assertEqual(spans(R0, tables, top, 0, 0), [(1, 2, 2), (2, 2, 2), (3, 6, 6)])

    def test_no_rows(self):
        self.assertEqual(spans(R0, [(1, [])], 4, 0, 0), [])

    def test_gaps_in_the_column(self):
        tables = [(2, [(1, G0), (1, 5), (2, G0), (1, G1)])]
        self.assertEqual(spans(R0, tables, 3, 0, 1), [(1, 5, 11), (2, 0, 3)])
        self.assertEqual(spans(R0, tables, 0, 0, 1), [(1, 5, 5), (2, 0, 0)])

    def test_gaps_in_the_key_column(self):
        tables = [(2, [(G0, 5), (1, 7), (60, 8)])]
        self.assertEqual(spans(R0, tables, 2, 0, 1), [(0, 0, 5), (1, 7, 12), (2, 0, 5), (60, 8, 8)])
        self.assertEqual(spans(R0, tables, 1, 0, 1), [(0, 0, 5), (1, 7, 12), (60, 8, 8)])

    def test_a_gap_is_0_where_top_is_0(self):
        tables = [(2, [(G0, 5), (0, 7), (G1, G0)])]
        self.assertEqual(spans(R0, tables, 0, 0, 1), [(0, 12, 12)])
        self.assertEqual(spans(R0, tables, 1, 0, 1), [(0, 7, 13), (1, 0, 6)])
        self.assertEqual(spans(("keep", R0, is_num(0, 0)), tables, 0, 0, 1), [(0, 7, 12)])

    def test_rows_that_may_be(self):
        tables = [(3, [(1, 5, G0), (1, 6, 2), (G1, 4, G0)])]
        kept = ("keep", R0, is_num(2, 2))
        self.assertEqual(spans(kept, tables, 1, 0, 1), [(0, 0, 4), (1, 6, 15)])

    def test_a_gap_in_both_columns(self):
        # A gap's greatest is top, whatever the key.
        self.assertEqual(spans(R0, [(2, [(G0, G0)])], 2, 0, 1), [(0, 0, 2), (1, 0, 2), (2, 0, 2)])
        self.assertEqual(spans(R0, [(2, [(G0, 9)])], 2, 0, 0), [(0, 0, 2), (1, 0, 2), (2, 0, 2)])

    def test_of_rows_that_lack(self):
        tables = [(2, [(G0, 9), (1, 8)])]
        self.assertEqual(spans(("keep", R0, ("lacks", COL)), tables, 1, 0, 1), [(0, 0, 9), (1, 0, 9)])
        self.assertEqual(totals(("keep", R0, ("lacks", COL)), tables, 1, 0, 1), [])

    def test_without_fillings_there_are_never_too_many(self):
        tables = [(2, [(("gap", name), 1) for name in range(6)]), (2, [(2, ("gap", name)) for name in range(4, 10)])]
        self.assertEqual(spans(R1, tables, 9, 0, 1), [(2, 0, 54)])
        self.assertEqual(spans(R0, tables, 9, 0, 1), [(number, 0, 6) for number in range(10)])


class Compared(unittest.TestCase):
    def compare(self, sentence, tables, top, key, column):
        sums = totals(sentence, tables, top, key, column)
        self.assertEqual(sums, all_totals(sentence, tables, top, key, column), (sentence, tables, top, key, column))
        found = spans(sentence, tables, top, key, column)
        self.assertEqual(found, all_spans(sentence, tables, top, key, column), (sentence, tables, top, key, column))
        return sums, {number: (low, high) for number, low, high in found}

    def test_many_sentences_over_many_tables(self):
        sampler = Sampler(41, high=4)
        for _ in range(500):
            sentence, tables, wide = sampler.case()
            key, column = sampler.columns(wide, 2)
            self.compare(sentence, tables, sampler.dice.choice((0, 1, 2, 3)), key, column)

    def test_totals_lie_within_spans(self):
        sampler = Sampler(43, high=3, names=4, lacking=False)
        for _ in range(500):
            sentence, tables, wide = sampler.case()
            key, column = sampler.columns(wide, 2)
            sums, bounds = self.compare(sentence, tables, sampler.dice.choice((0, 1, 2)), key, column)
            for number, least, most in sums:
                self.assertLessEqual(bounds[number][0], least, (sentence, tables, key, column))
                self.assertLessEqual(most, bounds[number][1], (sentence, tables, key, column))

    def test_greatest_numbers(self):
        sampler = Sampler(47, low=0, high=99, names=2)
        for top in range(10):
            for _ in range(10):
                sentence, tables, wide = sampler.case(depth=2)
                self.compare(sentence, tables, top, *sampler.columns(wide, 2))


class Refused(unittest.TestCase):
    def refused(self, error, *handed, functions=(totals, spans)):
        for function in functions:
            with self.subTest(error=error, handed=handed):
                with self.assertRaises(error):
                    function(*handed)

    def test_columns(self):
        tables = [(3, [(1, 2, G0)]), (1, [])]
        for sentence, wide in ((R0, 3), (R1, 1), (("pick", R0, (1, 1)), 2), (("join", R0, R0, ()), 6)):
            for column in (-1, wide, wide + 1, 8, 99, -wide):
                for top in (5, -1, 10):
                    self.refused(BadColumn, sentence, tables, top, column, 0)
                    self.refused(BadColumn, sentence, tables, top, 0, column)
                    self.refused(BadColumn, sentence, tables, top, column, column)
            for column in range(wide):
                for function in (totals, spans):
                    function(sentence, tables, 3, column, 0)
                    function(sentence, tables, 3, 0, column)

    def test_tops(self):
        for tables in ([(1, [(G0,)])], [(1, [(5,)])], [(1, [])]):
            for top in (-1, 10, 11, 99, -10, 1000):
                self.refused(BadTop, R0, tables, top, 0, 0)
            for top in range(10):
                totals(R0, tables, top, 0, 0)
                spans(R0, tables, top, 0, 0)

    def test_more_than_800_fillings(self):
        for top in range(10):
            for names in range(7):
                tables = [(1, [(5,)]), (1, [(("gap", name),) for name in range(names)])]
                self.assertEqual(names_in(tables), list(range(names)))
                if (top + 1) ** names > 800:
                    self.refused(TooMany, R0, tables, top, 0, 0, functions=[totals])
                else:
                    self.assertEqual(totals(R0, tables, top, 0, 0), [(5, 5, 5)])
                self.assertEqual(spans(R0, tables, top, 0, 0), [(5, 5, 5)])

    def test_which_is_refused_first(self):
        many = [(2, [(("gap", name), 1) for name in range(6)])]
        bad = [(2, [(1, 100)])]
        for top in (9, 10, -1):
            for column in (0, 2, -1):
                for sentence in (R0, R1, None):
                    self.refused(BadTables, sentence, bad, top, column, column)
                for sentence in (R1, None):
                    self.refused(BadSentence, sentence, many, top, column, column)
            self.refused(BadColumn, R0, many, top, 2, 0)
            self.refused(BadColumn, R0, many, top, 1, -1)
        self.refused(BadTop, R0, many, 10, 0, 1)
        self.refused(BadTop, R0, many, -1, 1, 0)
        self.refused(TooMany, R0, many, 9, 0, 1, functions=[totals])


if __name__ == "__main__":
    unittest.main()
