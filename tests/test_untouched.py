"""Point 1: nothing handed in is changed or kept, what is told may be changed, the same is told again."""

import copy
import unittest

from gaprows.alike import parted, parted_by
from gaprows.errors import BadColumn, BadSentence, BadTables, BadText, BadTop, TooMany
from gaprows.making import back, flat, made
from gaprows.notes import read, written
from gaprows.plain import plain_rows
from gaprows.running import run, three
from gaprows.sums import spans, totals
from gaprows.worlds import may, shown, surely
from tests.samples import Sampler

GAP = ("gap", 0)
R0, R1 = ("rows", 0), ("rows", 1)
KEEP = ("keep", R0, ("is", ("col", 0), ("num", 1)))
SENTENCES = (R0, R1, KEEP, ("keep", R0, ("is", ("num", 1), ("num", 1))), ("pick", R0, (0, 1)), ("pick", KEEP, (1,)),
             ("join", R0, R1, ()), ("join", KEEP, R1, ((0, 0),)), ("both", R0, R0), ("both", R0, KEEP),
             ("without", R0, R1), ("without", R0, KEEP))
TRUE = ("all", ())
PLAIN = (R0, R1, ("keep", R0, TRUE), ("pick", R0, (0, 1)), ("both", R0, R0), ("both", R0, R1), ("pair", R0, R1),
         ("missing", R0, R1, ("any", ())), ("missing", R0, R1, TRUE))


def asked_over(sentence, tables):
    """What is told of a sentence over tables, each by a call of its own."""
    return [lambda: run(sentence, tables), lambda: surely(sentence, tables, 3), lambda: may(sentence, tables, 3),
            lambda: totals(sentence, tables, 3, 0, 0), lambda: spans(sentence, tables, 3, 0, 0)]


def parting():
    """Sentences, and how many rows each, of which tables are told, some of them alike."""
    none = ("keep", R0, ("less", ("num", 1), ("num", 1)))
    return [(R0, none, [1, 1, 1], 1), (R0, R1, [1, 1], 1), (("both", R0, R1), ("both", R1, R0), [1, 1], 2),
            (("join", R0, R1, ((0, 0),)), ("join", R0, none, ()), [1, 1], 2)]


def spoil(rows):
    rows.reverse()
    rows.append("spoiled")
    rows[0] = None
    del rows[1:2]


class Untouched(unittest.TestCase):
    def setUp(self):
        self.tables = [(2, [(1, GAP), (GAP, 2), (3, 4)]), (2, [(1, 2), (5, GAP)])]

    def test_what_is_handed_in_stays(self):
        before = copy.deepcopy(self.tables)
        flats = flat(self.tables, 7)
        flats_before = copy.deepcopy(flats)
        widths = [2, 2]
        for sentence in SENTENCES:
            for ask in asked_over(sentence, self.tables):
                ask()
            shown(sentence, self.tables, 3, (1, 2), 1)
            for one in made(sentence, widths):
                plain_rows(one, flats)
            self.assertEqual(read(written(sentence, widths), widths), sentence)
            parted_by(sentence, KEEP, widths, 0, 1)
        for sentence in PLAIN:
            plain_rows(sentence, flats)
        self.assertEqual(self.tables, before)
        self.assertEqual(flats, flats_before)
        self.assertEqual(widths, [2, 2])

    def test_what_is_refused_stays(self):
        tables = self.tables + [(1, [(1,), (-1,)])]
        before = copy.deepcopy(tables)
        widths = [2, 2]
        with self.assertRaises(BadTables):
            run(R0, tables)
        with self.assertRaises(BadTables):
            flat(tables, 0)
        with self.assertRaises(BadTop):
            flat(tables[:2], 100)
        with self.assertRaises(BadSentence):
            run(("rows", 2), tables[:2])
        with self.assertRaises(BadSentence):
            made(("rows", 2), widths)
        with self.assertRaises(BadSentence):
            written(("rows", 2), widths)
        with self.assertRaises(BadText):
            read("rows 2 ", widths)
        with self.assertRaises(BadTop):
            may(R0, tables[:2], 10)
        with self.assertRaises(BadColumn):
            totals(R0, tables[:2], 3, 0, 2)
        with self.assertRaises(TooMany):
            parted_by(R0, R1, widths, 3, 2)
        self.assertEqual(tables, before)
        self.assertEqual(widths, [2, 2])

    def test_run_tells_the_same_again(self):
        for sentence in SENTENCES:
            with self.subTest(sentence=sentence):
                before = copy.deepcopy(self.tables)
                told = run(sentence, self.tables)
                first = list(told)
                spoil(told)
                self.assertEqual(self.tables, before)
                self.assertEqual(run(sentence, self.tables), first)

    def test_what_is_told_by_fillings_is_told_again(self):
        for sentence in SENTENCES:
            for ask in asked_over(sentence, self.tables):
                with self.subTest(sentence=sentence):
                    before = copy.deepcopy(self.tables)
                    told = ask()
                    first = list(told)
                    spoil(told)
                    self.assertEqual(self.tables, before)
                    self.assertEqual(ask(), first)

    def test_shown_tells_the_same_again(self):
        before = copy.deepcopy(self.tables)
        for row, many in (((1, 2), 1), ((1, 2), 9), ((1, 2), 0), ((2, 2), 1)):
            told = shown(R0, self.tables, 3, row, many)
            first = copy.deepcopy(told)
            for filling in told:
                if filling is not None:
                    spoil(filling)
            self.assertEqual(shown(R0, self.tables, 3, row, many), first)
            self.assertEqual(self.tables, before)

    def test_parted_by_tells_the_same_again(self):
        for one, other, widths, most in parting():
            told = parted_by(one, other, widths, 1, most)
            first = copy.deepcopy(told)
            for _, rows in told:
                spoil(rows)
            spoil(told)
            self.assertEqual(parted_by(one, other, widths, 1, most), first)

    def test_parted_by_tells_a_list_of_its_own_for_each_table(self):
        for one, other, widths, most in parting():
            told = parted_by(one, other, widths, 1, most)
            first = copy.deepcopy(told)
            for at, (_, rows) in enumerate(told):
                rows.append("spoiled")
                self.assertEqual(told[:at] + told[at + 1:], first[:at] + first[at + 1:])
                rows.pop()

    def test_flat_tells_the_same_again(self):
        before = copy.deepcopy(self.tables)
        told = flat(self.tables, 7)
        first = copy.deepcopy(told)
        for rows in told:
            spoil(rows)
        spoil(told)
        self.assertEqual(self.tables, before)
        self.assertEqual(flat(self.tables, 7), first)

    def test_flat_tells_a_list_of_its_own_for_each_table(self):
        table = (1, [(3,), (GAP,)])
        told = flat([table, table, table], 0)
        told[0].clear()
        self.assertEqual(told, [[], [(0, 3), (1, 0)], [(0, 3), (1, 0)]])

    def test_plain_rows_tells_the_same_again(self):
        flats = flat(self.tables, 7)
        before = copy.deepcopy(flats)
        for sentence in PLAIN:
            with self.subTest(sentence=sentence):
                told = plain_rows(sentence, flats)
                first = list(told)
                spoil(told)
                self.assertEqual(flats, before)
                self.assertEqual(plain_rows(sentence, flats), first)

    def test_nothing_handed_in_is_kept(self):
        flats = flat(self.tables, 7)
        widths = [2, 2]
        told = [run(sentence, self.tables) for sentence in SENTENCES]
        plain_told = [plain_rows(sentence, flats) for sentence in PLAIN]
        pairs = [made(sentence, widths) for sentence in SENTENCES]
        by_fillings = [ask() for sentence in SENTENCES for ask in asked_over(sentence, self.tables)]
        by_fillings.extend([shown(sentence, self.tables, 3, (1, 2), 1) for sentence in SENTENCES])
        apart = [parted_by(sentence, R1, widths, 0, 1) for sentence in SENTENCES]
        more = copy.deepcopy((by_fillings, apart))
        expected = copy.deepcopy((told, plain_told, pairs))
        flats_kept = flat(self.tables, 7)
        flats_expected = copy.deepcopy(flats_kept)
        for _, rows in self.tables:
            spoil(rows)
        for rows in flats:
            spoil(rows)
        self.tables.clear()
        widths.clear()
        self.assertEqual((told, plain_told, pairs), expected)
        self.assertEqual((by_fillings, apart), more)
        self.assertEqual(flats_kept, flats_expected)

    def test_the_same_is_told_again_whatever_is_asked_between(self):
        sampler = Sampler(23)
        cases = [sampler.case() for _ in range(60)]

        def answer(sentence, tables):
            widths = [wide for wide, _ in tables]
            pair = made(sentence, widths)
            flats = flat(tables, 3)
            rows = [row for _, rows in tables for row in rows]
            condition = ("is", ("col", 0), ("num", len(rows)))
            return (pair, flats, [plain_rows(one, flats) for one in pair], [back(row) for row in flats[0]],
                    [ask() for ask in asked_over(sentence, tables)],
                    [shown(sentence, tables, 1, row, 2) for row in rows],
                    [three(condition, row) for row in rows], parted(condition, ("lacks", ("col", 0)), widths[0], 1),
                    read(written(sentence, widths), widths),
                    parted_by(sentence, R0, widths, 0, 0), parted_by(R0, ("both", R0, R0), widths[:1], 0, 1))

        def answers():
            return [answer(sentence, tables) for sentence, tables, _ in cases]

        first = answers()
        cases.reverse()
        again = answers()
        again.reverse()
        self.assertEqual(first, again)

    def test_after_a_refusal(self):
        deep = ("lacks", ("col", 0))
        for _ in range(58):
            deep = ("not", deep)
        self.assertEqual(three(deep, (GAP,)), True)
        with self.assertRaises(BadSentence):
            three(("not", deep), (GAP,))
        self.assertEqual(three(deep, (GAP,)), True)
        self.assertEqual(run(R0, self.tables), run(R0, self.tables))


if __name__ == "__main__":
    unittest.main()
