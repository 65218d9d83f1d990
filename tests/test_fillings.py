"""Point 13: what holds of sure rows and of all rows by each filling."""

import itertools
import unittest
from collections import Counter

from gaprows.running import run
from tests.samples import Sampler

G0, G1, G2 = ("gap", 0), ("gap", 1), ("gap", 2)
R0, R1 = ("rows", 0), ("rows", 1)


def names_in(tables):
    names = []
    for _, rows in tables:
        for row in rows:
            names.extend(cell[1] for cell in row if not isinstance(cell, int) and cell[1] not in names)
    return list(dict.fromkeys(names))


def filled(row, filling):
    return tuple(cell if isinstance(cell, int) else filling[cell[1]] for cell in row)


def fillings(tables, top):
    names = names_in(tables)
    for numbers in itertools.product(range(top + 1), repeat=len(names)):
        yield dict(zip(names, numbers))


class Fillings(unittest.TestCase):
    def holds(self, sentence, tables, top):
        told = run(sentence, tables)
        for filling in fillings(tables, top):
            world = run(sentence, [(wide, [filled(row, filling) for row in rows]) for wide, rows in tables])
            # Where nothing lacks, all rows are sure.
            self.assertEqual({mark for _, mark in world} - {"sure"}, set())
            there = Counter(row for row, _ in world)
            sure = Counter(filled(row, filling) for row, mark in told if mark == "sure")
            every = Counter(filled(row, filling) for row, _ in told)
            self.assertEqual(sure - there, Counter(), (sentence, tables, filling))
            self.assertEqual(there - every, Counter(), (sentence, tables, filling))

    def test_all_rows_that_may_be_are_there_by_some_filling(self):
        tables = [(1, [(G0,), (1,), (2,)])]
        keep = ("keep", R0, ("is", ("col", 0), ("num", 1)))
        self.assertEqual(run(keep, tables), [((G0,), "maybe"), ((1,), "sure")])
        self.holds(keep, tables, 2)

    def test_a_row_by_every_filling_may_be_told_as_maybe(self):
        tables = [(1, [(G0,)])]
        one = ("is", ("col", 0), ("num", 1))
        keep = ("keep", R0, ("or", one, ("not", one)))
        self.assertEqual(run(keep, tables), [((G0,), "maybe")])
        self.holds(keep, tables, 3)

    def test_gaps_of_one_name_and_of_others(self):
        tables = [(2, [(G0, G1), (G1, G0), (1, G0), (G2, G2)]), (2, [(G0, 1), (1, 1), (G1, G1)])]
        alike = ("is", ("col", 0), ("col", 1))
        for sentence in (("keep", R0, alike), ("keep", R0, ("less", ("col", 0), ("col", 1))),
                         ("join", R0, R1, ((0, 0),)), ("join", R0, R1, ((1, 0), (0, 1))), ("without", R0, R1),
                         ("without", R1, R0), ("without", R0, ("keep", R0, alike)),
                         ("without", R0, ("without", R0, R1)), ("both", ("without", R0, R1), R1),
                         ("keep", R0, ("not", ("is", ("plus", ("col", 0), ("num", 1)), ("col", 1))))):
            with self.subTest(sentence=sentence):
                self.holds(sentence, tables, 2)

    def test_many_sentences_over_small_tables(self):
        sampler = Sampler(17, high=2, gaps=0.3, lacking=False)
        for _ in range(300):
            sentence, tables, _ = sampler.case(most=3)
            self.holds(sentence, tables, 2)

    def test_all_tables_of_two_cells(self):
        cells = (G0, G1, 0, 1)
        one = ("keep", R0, ("less", ("col", 0), ("num", 1)))
        for first, second, third in itertools.product(cells, repeat=3):
            tables = [(1, [(first,), (second,)]), (1, [(third,)])]
            for sentence in (one, ("without", R0, R1), ("without", R1, R0), ("without", R0, one),
                             ("without", R1, one), ("join", R0, R1, ((0, 0),)), ("join", one, R1, ((0, 0),))):
                self.holds(sentence, tables, 2)


if __name__ == "__main__":
    unittest.main()
