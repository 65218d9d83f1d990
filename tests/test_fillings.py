"""Point 13: what holds of sure rows and of all rows by each filling."""

import itertools
import unittest
from collections import Counter

from gaprows.running import run
from gaprows.sums import spans, totals
from gaprows.worlds import may, shown, surely
from tests.oracle import filled, fillings
from tests.samples import Sampler

G0, G1, G2 = ("gap", 0), ("gap", 1), ("gap", 2)
R0, R1 = ("rows", 0), ("rows", 1)


class Fillings(unittest.TestCase):
    def holds(self, sentence, tables, top):
        told = run(sentence, tables)
        least, most = [], []
        for filling in fillings(tables, top):
            world = run(sentence, [(wide, [filled(row, filling) for row in rows]) for wide, rows in tables])
            # Where nothing lacks, all rows are sure.
            self.assertEqual({mark for _, mark in world} - {"sure"}, set())
            there = Counter(row for row, _ in world)
            sure = Counter(filled(row, filling) for row, mark in told if mark == "sure")
            every = Counter(filled(row, filling) for row, _ in told)
            self.assertEqual(sure - there, Counter(), (sentence, tables, filling))
            self.assertEqual(there - every, Counter(), (sentence, tables, filling))
            least.append(sure)
            most.append(every)
        self.within(sentence, tables, top, least, most)

    def within(self, sentence, tables, top, least, most):
        """What is told by all fillings lies within what run tells, filled by each."""
        always, ever = Counter(dict(surely(sentence, tables, top))), Counter(dict(may(sentence, tables, top)))
        for row in set().union(*least, *most, always, ever):
            self.assertGreaterEqual(always[row], min(sure[row] for sure in least), (sentence, tables, row))
            self.assertLessEqual(ever[row], max(every[row] for every in most), (sentence, tables, row))
            self.assertIsNone(shown(sentence, tables, top, row, min(sure[row] for sure in least))[1])
            self.assertIsNone(shown(sentence, tables, top, row, max(every[row] for every in most) + 1)[0])
        columns = range(min([2] + [len(row) for row in ever]))
        for key, column in itertools.product(columns if ever else (), repeat=2):
            bounds = {number: (low, high) for number, low, high in spans(sentence, tables, top, key, column)}
            for number, low, high in totals(sentence, tables, top, key, column):
                self.assertLessEqual(bounds[number][0], low, (sentence, tables, top, key, column, number))
                self.assertGreaterEqual(bounds[number][1], high, (sentence, tables, top, key, column, number))

    def test_all_rows_that_may_be_are_there_by_some_filling(self):
        tables = [(1, [(G0,), (1,), (2,)])]
        keep = ("keep", R0, ("is", ("col", 0), ("num", 1)))
        self.assertEqual(run(keep, tables), [((G0,), "maybe"), ((1,), "sure")])
        self.holds(keep, tables, 2)

    def test_a_row_by_every_filling_may_be_told_as_maybe(self):
        tables = [(1, [(G0,)])]
        one = ("is", ("col", 0), ("num", 1))
        keep = ("keep", R0, ("or", one, ("not", one)))
        self.assertEqual(run(keep, tables), [((G0,), "maybe")])
        self.holds(keep, tables, 3)

    def test_gaps_of_one_name_and_of_others(self):
        tables = [(2, [(G0, G1), (G1, G0), (1, G0), (G2, G2)]), (2, [(G0, 1), (1, 1), (G1, G1)])]
        alike = ("is", ("col", 0), ("col", 1))
        for sentence in (("keep", R0, alike), ("keep", R0, ("less", ("col", 0), ("col", 1))),
                         ("join", R0, R1, ((0, 0),)), ("join", R0, R1, ((1, 0), (0, 1))), ("without", R0, R1),
                         ("without", R1, R0), ("without", R0, ("keep", R0, alike)),
                         ("without", R0, ("without", R0, R1)), ("both", ("without", R0, R1), R1),
                         ("keep", R0, ("not", ("is", ("plus", ("col", 0), ("num", 1)), ("col", 1))))):
            with self.subTest(sentence=sentence):
                self.holds(sentence, tables, 2)

    def test_many_sentences_over_small_tables(self):
        sampler = Sampler(17, high=2, gaps=0.3, lacking=False)
        for _ in range(300):
            sentence, tables, _ = sampler.case(most=3)
            self.holds(sentence, tables, 2)

    def test_all_tables_of_two_cells(self):
        cells = (G0, G1, 0, 1)
        one = ("keep", R0, ("less", ("col", 0), ("num", 1)))
        for first, second, third in itertools.product(cells, repeat=3):
            tables = [(1, [(first,), (second,)]), (1, [(third,)])]
            for sentence in (one, ("without", R0, R1), ("without", R1, R0), ("without", R0, one),
                             ("without", R1, one), ("join", R0, R1, ((0, 0),)), ("join", one, R1, ((0, 0),))):
                self.holds(sentence, tables, 2)


if __name__ == "__main__":
    unittest.main()
