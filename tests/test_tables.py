"""Points 2 and 7: tables, rows and cells, and what of them is refused."""

import unittest

from gaprows.errors import BadSentence, BadTables, BadTop
from gaprows.making import flat
from gaprows.running import run, three
from gaprows.sums import spans, totals
from gaprows.worlds import may, shown, surely

GAP = ("gap", 0)
GOOD = (2, [(1, GAP), (0, 99)])
ROWS = ("rows", 0)

# Each with what no cell is.
NO_CELLS = (-1, 100, 1000, True, False, None, "1", "gap", "", (), (1,), ("gap",), ("gap", -1), ("gap", 10),
            ("gap", True), ("gap", None), ("gap", "1"), ("gap", 1, 2), ("gap", (1,)), ("gaps", 1), ("Gap", 1),
            (1, "gap"), (1, 1), (None, 1), [], ["gap", 1], ("gap", ("gap", 1)))
NO_ROWS = (None, True, 1, "", "12", (), (1,), (1, 2, 3), (GAP, GAP, GAP), [1, 2], [], GAP, ((1, 2),), (1, 2, None))
NO_WIDES = (0, 5, -1, 99, True, False, None, "2", "", (2,), (), GAP, [2])


class Tables(unittest.TestCase):
    def refused(self, tables, table, row):
        """By each function that tables are handed to, whatever else is handed in."""
        with self.subTest(tables=tables):
            for sentence in (ROWS, ("rows", 2), ("row", 0), None):
                self.place(table, row, run, sentence, tables)
                for top in (0, 10):
                    self.place(table, row, surely, sentence, tables, top)
                    self.place(table, row, may, sentence, tables, top)
                    self.place(table, row, shown, sentence, tables, top, (1, 2), 1)
                    self.place(table, row, totals, sentence, tables, top, 0, 9)
                    self.place(table, row, spans, sentence, tables, top, 9, 0)
            for beneath in (0, 99, -1, 100):
                self.place(table, row, flat, tables, beneath)

    def place(self, table, row, function, *handed):
        with self.assertRaises(BadTables) as caught:
            function(*handed)
        self.assertEqual((caught.exception.table, caught.exception.row), (table, row))

    def let_by(self, tables):
        with self.subTest(tables=tables):
            for at, (_, rows) in enumerate(tables):
                self.assertEqual(run(("rows", at), tables), [(row, "sure") for row in rows])
                self.assertEqual(sum(many for _, many in may(("rows", at), tables, 0)), len(rows))
                self.assertEqual(surely(("rows", at), tables, 0), may(("rows", at), tables, 0))
                self.assertEqual(totals(("rows", at), tables, 0, 0, 0), spans(("rows", at), tables, 0, 0, 0))
            self.assertEqual([len(rows) for rows in flat(tables, 0)], [len(rows) for _, rows in tables])

    def test_how_many_tables(self):
        self.refused([], -1, -1)
        self.refused([GOOD] * 4, -1, -1)
        self.refused([GOOD] * 5, -1, -1)
        self.refused([(9, [(1,)])] * 4, -1, -1)
        self.refused([None] * 4, -1, -1)
        for many in (1, 2, 3):
            self.let_by([GOOD] * many)

    def test_what_is_no_list_of_tables(self):
        for tables in (None, True, 1, "", "tables", (), (GOOD,), GOOD):
            self.refused(tables, -1, -1)

    def test_what_is_no_table(self):
        for table in (None, True, 2, "ab", "", [], [2, []], (), (2,)):
            self.refused([table], 0, -1)
            self.refused([GOOD, table, table], 1, -1)

    def test_how_wide(self):
        for wide in NO_WIDES:
            self.refused([(wide, [])], 0, -1)
            self.refused([(wide, [(1, 2)])], 0, -1)
            self.refused([GOOD, GOOD, (wide, [])], 2, -1)
        for wide in (1, 2, 3, 4):
            self.let_by([(wide, [])])
            self.let_by([(wide, [(7,) * wide, (GAP,) * wide])])

    def test_a_wide_of_five_with_rows_of_five(self):
        self.refused([(5, [(1, 2, 3, 4, 5)])], 0, -1)
        self.refused([(0, [()])], 0, -1)

    def test_how_many_rows(self):
        for many in range(7):
            self.let_by([(1, [(5,)] * many)])
            self.let_by([(4, [(5, GAP, 5, GAP)] * many), GOOD])
        for many in (7, 8, 20):
            self.refused([(1, [(5,)] * many)], 0, -1)
            self.refused([GOOD, (1, [(5,)] * many)], 1, -1)
            self.refused([(1, [None] * many)], 0, -1)

    def test_rows_in_no_list(self):
        for rows in (None, 3, "", ((1, 2),), ()):
            self.refused([GOOD, (2, rows)], 1, -1)

    def test_what_is_no_row(self):
        for row in NO_ROWS:
            self.refused([(2, [row])], 0, 0)
            self.refused([GOOD, (2, [(1, 2), (3, 4), row, row])], 1, 2)
            self.refused([GOOD, GOOD, (2, [(1, 2)] * 5 + [row])], 2, 5)

    def test_a_row_as_wide_as_another_table(self):
        self.refused([(1, [(1,)]), (2, [(1, 2), (1,)])], 1, 1)
        self.refused([(4, [(1, 2, 3, 4), (1, 2, 3, 4, 5)])], 0, 1)

    def test_what_is_no_cell(self):
        for cell in NO_CELLS:
            self.refused([(1, [(cell,)])], 0, 0)
            self.refused([GOOD, (3, [(1, 2, 3), (1, 2, cell)])], 1, 1)
            self.refused([(4, [(1, GAP, 3, 4)] * 3 + [(cell, 1, 1, 1)]), GOOD], 0, 3)

    def test_cells_at_the_bounds(self):
        self.let_by([(4, [(0, 99, ("gap", 0), ("gap", 9)), (1, 98, ("gap", 1), ("gap", 8))])])
        for number in range(100):
            self.let_by([(1, [(number,)])])
        for name in range(10):
            self.let_by([(1, [(("gap", name),)])])

    def test_the_first_of_several(self):
        self.refused([(2, [(1, 2), None, 3]), (9, [])], 0, 1)
        self.refused([(2, [(1, 2), (1, 100), (1,)]), None, (1, [()])], 0, 1)
        self.refused([(1, []), (0, [None]), (1, [None])], 1, -1)
        self.refused([(2, [(1, -1)] * 7), (0, [])], 0, -1)
        self.refused([(5, [(1, -1)] * 7)], 0, -1)
        self.refused([GOOD, (2, [(1, 2), (1, 2), (1, -1), (-1, 1)]), (2, [None])], 1, 2)

    def test_the_row_of_three(self):
        rows = [(), (1,) * 9, (1,) * 10, (GAP,) * 9, [1], [], None, True, 1, "1", "", [1, 2], ((1,),), GAP]
        rows.extend([(cell,) for cell in NO_CELLS])
        rows.extend([(1, GAP, cell) for cell in NO_CELLS])
        rows.extend([(1, 2, 3, 4, 5, 6, 7, cell) for cell in NO_CELLS])
        for row in rows:
            with self.subTest(row=row):
                for condition in (("lacks", ("num", 1)), ("lacks", ("col", 9)), ("lack", 1), None):
                    self.place(0, 0, three, condition, row)

    def test_rows_that_three_lets_by(self):
        for wide in range(1, 9):
            self.assertIs(three(("lacks", ("col", wide - 1)), (0, 99, 1, 2, 3, 4, 5, 6)[:wide]), False)
            self.assertIs(three(("lacks", ("col", 0)), (("gap", 9),) * wide), True)
        for number in range(100):
            self.assertIs(three(("is", ("col", 0), ("num", number)), (number,)), True)


class Order(unittest.TestCase):
    def test_sentences_are_refused_behind_tables(self):
        for sentence in (None, ("rows", 3), ("pick", ROWS, ())):
            for function, *more in ((run,), (surely, 10), (may, -1), (shown, 10, (1, 2), 1), (totals, 10, 9, 0),
                                    (spans, -1, 0, 9)):
                with self.assertRaises(BadTables):
                    function(sentence, [], *more)
                with self.assertRaises(BadSentence):
                    function(sentence, [GOOD], *more)

    def test_conditions_are_refused_behind_the_row(self):
        for condition in (None, ("lacks", ("col", 1)), ("is",)):
            with self.assertRaises(BadTables):
                three(condition, (100,))
            with self.assertRaises(BadSentence):
                three(condition, (99,))

    def test_what_lies_beneath_is_refused_behind_tables(self):
        for beneath in (-1, 100):
            with self.assertRaises(BadTables):
                flat([(5, [])], beneath)
            with self.assertRaises(BadTop):
                flat([GOOD], beneath)


if __name__ == "__main__":
    unittest.main()
