"""Point 1: nothing handed in is changed or kept, what is told may be changed, the same is told again."""

import copy
import unittest

from gaprows.errors import BadSentence, BadTables, BadTop
from gaprows.making import back, flat, made
from gaprows.plain import plain_rows
from gaprows.running import run, three
from tests.samples import Sampler

GAP = ("gap", 0)
R0, R1 = ("rows", 0), ("rows", 1)
KEEP = ("keep", R0, ("is", ("col", 0), ("num", 1)))
SENTENCES = (R0, R1, KEEP, ("keep", R0, ("is", ("num", 1), ("num", 1))), ("pick", R0, (0, 1)), ("pick", KEEP, (1,)),
             ("join", R0, R1, ()), ("join", KEEP, R1, ((0, 0),)), ("both", R0, R0), ("both", R0, KEEP),
             ("without", R0, R1), ("without", R0, KEEP))
TRUE = ("all", ())
PLAIN = (R0, R1, ("keep", R0, TRUE), ("pick", R0, (0, 1)), ("both", R0, R0), ("both", R0, R1), ("pair", R0, R1),
         ("missing", R0, R1, ("any", ())), ("missing", R0, R1, TRUE))


def spoil(rows):
    rows.reverse()
    rows.append("spoiled")
    rows[0] = None
    del rows[1:2]


class Untouched(unittest.TestCase):
    def setUp(self):
        self.tables = [(2, [(1, GAP), (GAP, 2), (3, 4)]), (2, [(1, 2), (5, GAP)])]

    def test_what_is_handed_in_stays(self):
        before = copy.deepcopy(self.tables)
        flats = flat(self.tables, 7)
        flats_before = copy.deepcopy(flats)
        widths = [2, 2]
        for sentence in SENTENCES:
            run(sentence, self.tables)
            for one in made(sentence, widths):
                plain_rows(one, flats)
        for sentence in PLAIN:
            plain_rows(sentence, flats)
        self.assertEqual(self.tables, before)
        self.assertEqual(flats, flats_before)
        self.assertEqual(widths, [2, 2])

    def test_what_is_refused_stays(self):
        tables = self.tables + [(1, [(1,), (-1,)])]
        before = copy.deepcopy(tables)
        widths = [2, 2]
        with self.assertRaises(BadTables):
            run(R0, tables)
        with self.assertRaises(BadTables):
            flat(tables, 0)
        with self.assertRaises(BadTop):
            flat(tables[:2], 100)
        with self.assertRaises(BadSentence):
            run(("rows", 2), tables[:2])
        with self.assertRaises(BadSentence):
            made(("rows", 2), widths)
        self.assertEqual(tables, before)
        self.assertEqual(widths, [2, 2])

    def test_run_tells_the_same_again(self):
        for sentence in SENTENCES:
            with self.subTest(sentence=sentence):
                before = copy.deepcopy(self.tables)
                told = run(sentence, self.tables)
                first = list(told)
                spoil(told)
                self.assertEqual(self.tables, before)
                self.assertEqual(run(sentence, self.tables), first)

    def test_flat_tells_the_same_again(self):
        before = copy.deepcopy(self.tables)
        told = flat(self.tables, 7)
        first = copy.deepcopy(told)
        for rows in told:
            spoil(rows)
        spoil(told)
        self.assertEqual(self.tables, before)
        self.assertEqual(flat(self.tables, 7), first)

    def test_flat_tells_a_list_of_its_own_for_each_table(self):
        table = (1, [(3,), (GAP,)])
        told = flat([table, table, table], 0)
        told[0].clear()
        self.assertEqual(told, [[], [(0, 3), (1, 0)], [(0, 3), (1, 0)]])

    def test_plain_rows_tells_the_same_again(self):
        flats = flat(self.tables, 7)
        before = copy.deepcopy(flats)
        for sentence in PLAIN:
            with self.subTest(sentence=sentence):
                told = plain_rows(sentence, flats)
                first = list(told)
                spoil(told)
                self.assertEqual(flats, before)
                self.assertEqual(plain_rows(sentence, flats), first)

    def test_nothing_handed_in_is_kept(self):
        flats = flat(self.tables, 7)
        widths = [2, 2]
        told = [run(sentence, self.tables) for sentence in SENTENCES]
        plain_told = [plain_rows(sentence, flats) for sentence in PLAIN]
        pairs = [made(sentence, widths) for sentence in SENTENCES]
        expected = copy.deepcopy((told, plain_told, pairs))
        flats_kept = flat(self.tables, 7)
        flats_expected = copy.deepcopy(flats_kept)
        for _, rows in self.tables:
            spoil(rows)
        for rows in flats:
            spoil(rows)
        self.tables.clear()
        widths.clear()
        self.assertEqual((told, plain_told, pairs), expected)
        self.assertEqual(flats_kept, flats_expected)

    def test_the_same_is_told_again_whatever_is_asked_between(self):
        sampler = Sampler(23)
        cases = [sampler.case() for _ in range(60)]

        def answers():
            told = []
            for sentence, tables, _ in cases:
                pair = made(sentence, [wide for wide, _ in tables])
                flats = flat(tables, 3)
                told.append((run(sentence, tables), pair, flats, [plain_rows(one, flats) for one in pair],
                             [[back(row) for row in rows] for rows in flats]))
            return told

        first = answers()
        cases.reverse()
        again = answers()
        again.reverse()
        self.assertEqual(first, again)

    def test_after_a_refusal(self):
        deep = ("lacks", ("col", 0))
        for _ in range(58):
            deep = ("not", deep)
        self.assertEqual(three(deep, (GAP,)), True)
        with self.assertRaises(BadSentence):
            three(("not", deep), (GAP,))
        self.assertEqual(three(deep, (GAP,)), True)
        self.assertEqual(run(R0, self.tables), run(R0, self.tables))


if __name__ == "__main__":
    unittest.main()
