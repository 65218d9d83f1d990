"""Point 17: the first tables of which two sentences tell unlike rows or truths."""

import itertools
import unittest

from gaprows.alike import parted_by
from gaprows.errors import BadSentence, BadTop, TooMany
from gaprows.running import run
from tests.oracle import graded
from tests.samples import Sampler

G0, G1 = ("gap", 0), ("gap", 1)
R0, R1, R2 = ("rows", 0), ("rows", 1), ("rows", 2)
COL, OTHER, NUM = ("col", 0), ("col", 1), ("num", 1)
TRUE, FALSE = ("is", NUM, NUM), ("less", NUM, NUM)
LACKS = ("lacks", COL)


def tables_in_order(wide, top, most):
    rows = list(itertools.product([G0, G1] + list(range(top + 1)), repeat=wide))
    return [(wide, list(told)) for many in range(most + 1) for told in itertools.product(rows, repeat=many)]


def lists_in_order(widths, top, most):
    return itertools.product(*[tables_in_order(wide, top, most) for wide in widths])


def first_tables(one, other, widths, top, most):
    for tables in lists_in_order(widths, top, most):
        if graded(one, tables) != graded(other, tables):
            return list(tables)
    return None


def how_many(widths, top, most):
    told = 1
    for wide in widths:
        told *= sum((top + 3) ** (wide * many) for many in range(most + 1))
    return told


class FirstTables(unittest.TestCase):
    def test_tables_of_fewer_rows_go_ahead(self):
        none = ("keep", R0, FALSE)
        self.assertEqual(parted_by(R0, none, [1], 2, 2), [(1, [(G0,)])])
        self.assertEqual(parted_by(("keep", R0, ("not", LACKS)), none, [1], 2, 2), [(1, [(0,)])])
        # It takes two rows for this to tell any.
        two = ("keep", ("join", R0, R0, ()), ("true", ("not", ("is", COL, OTHER))))
        self.assertEqual(parted_by(two, ("keep", two, FALSE), [1], 2, 2), [(1, [(0,), (1,)])])
        self.assertIsNone(parted_by(two, ("keep", two, FALSE), [1], 2, 1))

    def test_else_by_the_first_unlike_row(self):
        pairs = ("join", R0, R0, ())
        both = ("and", ("not", LACKS), ("lacks", OTHER))
        mixed = ("keep", pairs, both)
        self.assertEqual(parted_by(mixed, ("keep", mixed, FALSE), [1], 1, 2), [(1, [(G0,), (0,)])])
        less = ("keep", pairs, ("true", ("less", OTHER, ("take", COL, NUM))))
        self.assertEqual(parted_by(less, ("keep", less, FALSE), [1], 3, 2), [(1, [(0,), (2,)])])

    def test_cells_in_their_order(self):
        never = ("keep", R0, FALSE)
        for top in range(4):
            for number in range(top + 1):
                just = ("keep", R0, ("true", ("is", OTHER, ("num", number))))
                self.assertEqual(parted_by(just, never, [2], top, 1), [(2, [(G0, number)])])
            self.assertIsNone(parted_by(("keep", R0, ("true", ("is", OTHER, ("num", top + 1)))), never, [2], top, 1))
        self.assertEqual(parted_by(("keep", R0, ("is", COL, OTHER)), ("keep", R0, ("true", ("is", COL, OTHER))),
                                   [2], 0, 1), [(2, [(G0, G1)])])

    def test_lists_by_the_first_unlike_table(self):
        self.assertEqual(parted_by(R0, R1, [1, 1], 0, 1), [(1, []), (1, [(G0,)])])
        self.assertEqual(parted_by(R0, ("keep", R0, FALSE), [1, 1], 0, 2), [(1, [(G0,)]), (1, [])])
        self.assertEqual(parted_by(("join", R0, R1, ()), ("join", R1, R0, ()), [1, 1], 0, 2),
                         [(1, [(G0,)]), (1, [(G1,)])])
        self.assertEqual(parted_by(("both", R0, ("pick", R1, (1,))), R0, [1, 2, 1], 0, 1),
                         [(1, []), (2, [(G0, G0)]), (1, [])])
        self.assertEqual(parted_by(("without", R0, R2), ("without", R0, R1), [1, 1, 1], 0, 1),
                         [(1, [(G0,)]), (1, []), (1, [(G0,)])])

    def test_truths_alone_unlike(self):
        sure = ("keep", R0, TRUE)
        maybe = ("keep", R0, ("is", COL, NUM))
        tables = parted_by(("keep", R0, ("or", LACKS, ("is", COL, NUM))), maybe, [1], 1, 2)
        self.assertEqual(tables, [(1, [(G0,)])])
        self.assertEqual(parted_by(maybe, ("keep", R0, ("or", LACKS, ("is", COL, NUM))), [1], 1, 2), tables)
        self.assertEqual([[row for row, _ in run(one, tables)] for one in (sure, maybe)], [[(G0,)], [(G0,)]])
        alike = ("is", COL, OTHER)
        self.assertEqual(parted_by(("keep", R0, alike), ("keep", R0, ("or", alike, ("or", LACKS, ("lacks", OTHER)))),
                                   [2], 0, 1), [(2, [(G0, G1)])])

    def test_rows_in_another_turn(self):
        self.assertEqual(parted_by(("both", R0, R1), ("both", R1, R0), [1, 1], 0, 1), [(1, [(G0,)]), (1, [(G1,)])])
        self.assertIsNone(parted_by(("both", R0, ("both", R1, R0)), ("both", ("both", R0, R1), R0), [1, 1], 0, 1))

    def test_rows_so_often(self):
        self.assertEqual(parted_by(R0, ("both", R0, R0), [1], 3, 2), [(1, [(G0,)])])
        self.assertEqual(parted_by(("without", R0, R1), ("without", R0, ("both", R1, R1)), [1, 1], 0, 2), None)

    def test_without_rows_nothing_parts(self):
        for widths in ([1], [4, 4, 4], [2, 3]):
            self.assertIsNone(parted_by(R0, ("keep", R0, FALSE), widths, 3, 0))
        self.assertIsNone(parted_by(R0, R1, [1, 4], 0, 0))

    def test_sentences_unlike_wide(self):
        self.assertEqual(parted_by(R0, ("pick", R0, (0,)), [2], 1, 1), [(2, [(G0, G0)])])
        none = ("keep", R0, FALSE)
        self.assertIsNone(parted_by(none, ("pick", none, (0,)), [2], 1, 1))
        self.assertIsNone(parted_by(none, ("join", none, none, ()), [2], 1, 1))

    def test_two_rows_in_two_tables(self):
        known = [("keep", ("join", table, table, ()), ("true", ("less", COL, OTHER))) for table in (R0, R1)]
        either = ("join", *known, ())
        self.assertEqual(parted_by(either, ("keep", either, FALSE), [1, 1], 1, 2),
                         [(1, [(0,), (1,)]), (1, [(0,), (1,)])])

    def test_kinds(self):
        tables = parted_by(R0, ("both", R0, R0), [2, 1, 1], 0, 1)
        self.assertEqual(tables, [(2, [(G0, G0)]), (1, []), (1, [])])
        self.assertIs(type(tables), list)
        for table in tables:
            self.assertIs(type(table), tuple)
            self.assertIs(type(table[1]), list)
        self.assertIs(type(tables[0][1][0]), tuple)
        # They are tables to run a sentence over.
        self.assertEqual(run(R0, tables), [((G0, G0), "sure")])


class Alike(unittest.TestCase):
    def same(self, one, other, widths=(2, 2), top=0, most=1):
        self.assertIsNone(parted_by(one, other, list(widths), top, most), (one, other))

    def test_rules_of_sentences(self):
        for condition in (LACKS, ("is", COL, OTHER), ("less", OTHER, NUM)):
            self.same(("keep", ("keep", R0, condition), LACKS), ("keep", R0, ("and", condition, LACKS)))
            self.same(("keep", ("both", R0, R1), condition), ("both", ("keep", R0, condition), ("keep", R1, condition)))
            self.same(("keep", ("without", R0, R1), condition), ("without", ("keep", R0, condition), R1))
        self.same(("pick", ("pick", R0, (1, 0)), (1, 0)), R0)
        self.same(("without", R0, ("both", R1, R0)), ("without", ("without", R0, R1), R0))
        self.same(("keep", ("join", R0, R1, ()), ("is", OTHER, ("col", 2))), ("join", R0, R1, ((1, 0),)))
        self.same(R0, ("keep", R0, TRUE), [2], 1, 2)
        self.same(("both", R0, R0), ("both", R0, ("keep", R0, TRUE)), [1], 3, 2)


class Compared(unittest.TestCase):
    def test_many_sentences(self):
        sampler = Sampler(59)
        bounds = [(widths, top, most) for many in (1, 2, 3) for widths in itertools.product((1, 2, 3), repeat=many)
                  for top in (0, 1, 2, 3) for most in (1, 2) if how_many(widths, top, most) <= 700]
        parts = 0
        for _ in range(400):
            widths, top, most = sampler.dice.choice(bounds)
            one, _ = sampler.sentence(widths, 2)
            other, _ = sampler.sentence(widths, 2)
            tables = parted_by(one, other, list(widths), top, most)
            self.assertEqual(tables, first_tables(one, other, widths, top, most), (one, other, widths, top, most))
            parts += tables is not None
        self.assertGreater(parts, 80)
        self.assertLess(parts, 390)

    def test_sentences_nearly_alike(self):
        sampler = Sampler(61)
        parts = set()
        for _ in range(600):
            widths = [1, 1] if sampler.dice.random() < 0.5 else [2]
            condition = sampler.condition(widths[0], 2)
            one = ("keep", R0, condition)
            wide = widths[0]
            other = ("keep", R0, sampler.condition(wide, 1))
            if len(widths) == 2:
                one, other = ("without", R1, one), ("without", R1, other)
            top, most = sampler.dice.choice(((0, 1), (1, 1), (2, 1)))
            tables = parted_by(one, other, widths, top, most)
            self.assertEqual(tables, first_tables(one, other, widths, top, most), (one, other, widths, top, most))
            parts.add(str(tables))
        self.assertGreater(len(parts), 10)


class Refused(unittest.TestCase):
    WIDTHS = [list(widths) for many in (1, 2, 3) for widths in itertools.product((1, 2, 3, 4), repeat=many)]

    def refused(self, error, *handed):
        with self.subTest(error=error, handed=handed):
            with self.assertRaises(error):
                parted_by(*handed)

    def place(self, at, why, *handed):
        with self.assertRaises(BadSentence) as caught:
            parted_by(*handed)
        self.assertEqual((caught.exception.at, caught.exception.why), (at, why))

    def test_tops(self):
        for top in (-1, 4, 5, 9, 100):
            for most in (0, 1, 2, 3, -1):
                self.refused(BadTop, R0, R0, [1], top, most)
        for most in (-1, 3, 4, 6, 100):
            for top in range(4):
                self.refused(BadTop, R0, R0, [1], top, most)
                self.refused(BadTop, R0, R0, [4, 4, 4], top, most)
        for top in range(4):
            for most in range(3):
                self.assertIsNone(parted_by(R0, R0, [1], top, most))

    def test_more_than_2000_lists(self):
        counts = set()
        for widths in self.WIDTHS:
            for top in range(4):
                for most in range(3):
                    counts.add(how_many(widths, top, most))
                    if how_many(widths, top, most) > 2000:
                        self.refused(TooMany, R0, R0, widths, top, most)
                        self.refused(TooMany, R0, ("both", R0, R0), widths, top, most)
                    else:
                        found = parted_by(R0, ("keep", R0, FALSE), widths, top, most)
                        self.assertEqual(found is None, most == 0)
        # The nearest ones on both sides.
        self.assertEqual([max(many for many in counts if many <= 2000), min(many for many in counts if many > 2000)],
                         [1849, 2197])

    def test_the_most_lists_are_gone_through(self):
        for widths in self.WIDTHS:
            for top in range(4):
                for most in range(3):
                    if 1500 < how_many(widths, top, most) <= 2000:
                        self.assertIsNone(parted_by(R0, R0, widths, top, most))

    def test_which_is_refused_first(self):
        wide = [4, 4, 4]
        beyond = ("rows", 3)
        for top, most in ((0, 0), (4, 1), (1, 3), (-1, -1), (3, 2)):
            self.place(0, "table", beyond, None, wide, top, most)
            self.place(0, "shape", None, beyond, wide, top, most)
            self.place(0, "table", R0, beyond, wide, top, most)
            self.place(1, "table", ("pick", beyond, ()), beyond, wide, top, most)
            # Things are numbered anew in the second one.
            self.place(1, "table", ("pick", R0, (0,)), ("pick", beyond, ()), wide, top, most)
        self.refused(BadTop, R0, R0, wide, 4, 2)
        self.refused(BadTop, R0, R0, wide, 3, 3)
        self.refused(TooMany, R0, R0, wide, 3, 2)
        self.refused(TooMany, R0, ("pick", R0, (0,)), wide, 0, 1)


if __name__ == "__main__":
    unittest.main()
