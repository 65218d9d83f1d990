"""Point 10: the two plain sentences that tell just the sure rows, and all, of run."""

import unittest

from gaprows.making import back, flat, made
from gaprows.plain import plain_rows
from gaprows.running import run
from tests.oracle import plain_told
from tests.samples import Sampler

G0, G1, G2 = ("gap", 0), ("gap", 1), ("gap", 2)
R0, R1 = ("rows", 0), ("rows", 1)
BENEATH = (0, 1, 2, 3, 50, 99)


def widths_of(tables):
    return [wide for wide, _ in tables]


def plain(row, beneath):
    numbers = ()
    for cell in row:
        numbers += (0, cell) if isinstance(cell, int) else (cell[1] + 1, beneath)
    return numbers


def unlike_beneath(flats, start):
    """The lists of plain rows with other numbers beneath gaps, also beneath those of one name."""
    at = start
    told = []
    for rows in flats:
        told.append([])
        for row in rows:
            numbers = list(row)
            for place in range(0, len(row), 2):
                if row[place]:
                    at += 7
                    numbers[place + 1] = at * at % 11 - 4
            told[-1].append(tuple(numbers))
    return told


class Made(unittest.TestCase):
    def tells_the_same(self, sentence, tables):
        told = run(sentence, tables)
        rows = ([row for row, mark in told if mark == "sure"], [row for row, _ in told])
        pair = made(sentence, widths_of(tables))
        for beneath in BENEATH:
            flats = flat(tables, beneath)
            for one, expected in zip(pair, rows):
                found = plain_rows(one, flats)
                self.assertEqual(found, [plain(row, beneath) for row in expected], (sentence, tables, beneath))
                self.assertEqual([back(row) for row in found], expected)
                self.assertEqual(plain_told(one, flats), found)
        for start in range(4):
            flats = unlike_beneath(flat(tables, 0), start)
            for one, expected in zip(pair, rows):
                found = [back(row) for row in plain_rows(one, flats)]
                self.assertEqual(found, expected, (sentence, tables, flats))

    def test_each_sentence(self):
        tables = [(2, [(1, 2), (G0, 2), (1, 2), (G1, G0), (3, G1)]), (2, [(1, 2), (G0, 3), (0, 0), (G1, G0)]), (1, [])]
        keep = ("keep", R0, ("is", ("col", 0), ("num", 1)))
        for sentence in (R0, R1, ("rows", 2), keep, ("pick", R0, (1,)), ("pick", keep, (1, 0, 0, 1, 1, 1, 0, 0)),
                         ("join", R0, R1, ()), ("join", R0, R1, ((0, 0),)), ("join", R0, keep, ((0, 0), (1, 1), (1, 0))),
                         ("join", R0, ("rows", 2), ()), ("both", R0, keep), ("both", keep, R1), ("without", R0, R1),
                         ("without", R0, keep), ("without", keep, R0), ("without", keep, keep),
                         ("without", R1, ("without", R0, keep)), ("without", ("without", R1, keep), R0),
                         ("without", ("rows", 2), ("rows", 2)), ("keep", ("without", R1, keep), ("lacks", ("col", 1)))):
            with self.subTest(sentence=sentence):
                self.tells_the_same(sentence, tables)

    def test_each_condition(self):
        tables = [(4, [(1, 2, 1, G0), (G0, G0, 1, 3), (G0, G1, 2, 2), (2, G1, G1, 2), (G1, 0, G1, G2), (1, 1, 1, 1)])]
        parts = [("col", 0), ("col", 1), ("num", 1), ("num", 0), ("plus", ("col", 0), ("num", 0)),
                 ("take", ("col", 0), ("col", 1)), ("plus", ("num", 1), ("num", 0)),
                 ("take", ("num", 1), ("plus", ("col", 2), ("col", 3)))]
        conditions = [(word, one, other) for word in ("is", "less") for one in parts for other in parts]
        conditions += [("lacks", part) for part in parts]
        for condition in conditions:
            for around in (condition, ("not", condition), ("true", condition), ("not", ("true", condition)),
                           ("true", ("not", condition))):
                with self.subTest(condition=around):
                    self.tells_the_same(("keep", R0, around), tables)

    def test_and_and_or(self):
        rows = [(one, other) for one in (1, 2, G0) for other in (1, 2)] + [(1, G1), (2, G1), (G0, G1)]
        tables = [(2, rows[:6]), (2, rows[6:])]
        one, other = ("is", ("col", 0), ("num", 1)), ("is", ("col", 1), ("num", 1))
        for word in ("and", "or"):
            for condition in ((word, one, other), ("not", (word, one, ("not", other))),
                              (word, ("true", one), other), (word, ("or", one, other), ("and", other, one))):
                with self.subTest(condition=condition):
                    self.tells_the_same(("keep", ("both", R0, R1), condition), tables)

    def test_rows_of_eight_cells(self):
        tables = [(4, [(1, G0, 2, G1), (G1, G0, 2, 3)]), (4, [(1, G0, 2, G1), (1, 2, 2, 3)])]
        whole = ("join", R0, R1, ((0, 0), (3, 3)))
        self.tells_the_same(whole, tables)
        self.tells_the_same(("keep", whole, ("is", ("col", 7), ("col", 3))), tables)
        self.tells_the_same(("without", whole, ("keep", whole, ("is", ("col", 7), ("num", 3)))), tables)

    def test_all_names_of_gaps(self):
        gaps = [(("gap", name),) for name in range(10)]
        tables = [(1, gaps[:5] + [(5,)]), (1, gaps[5:] + [(5,)]), (1, [gaps[0], gaps[9], (0,), (9,)])]
        whole = ("both", R0, R1)
        for sentence in (("join", whole, ("rows", 2), ((0, 0),)), ("without", whole, ("rows", 2)),
                         ("without", ("rows", 2), whole),
                         ("keep", ("join", whole, whole, ()), ("less", ("col", 0), ("col", 1)))):
            self.tells_the_same(sentence, tables)

    def test_deep_ones(self):
        tables = [(2, [(1, G0), (G0, G0), (2, 1)])]
        condition = ("is", ("col", 0), ("num", 1))
        for _ in range(26):
            condition = ("not", ("true", condition))
        self.tells_the_same(("keep", R0, condition), tables)
        chain = ("less", ("col", 1), ("num", 1))
        for at in range(13):
            chain = ("and" if at % 2 else "or", ("is", ("col", 0), ("col", 1)), chain)
        self.tells_the_same(("keep", R0, chain), tables)
        sentence = R0
        for at in range(29):
            sentence = ("without", R0, sentence)
        self.tells_the_same(sentence, tables)

    def test_one_sentence_over_several_tables(self):
        sampler = Sampler(11)
        for _ in range(100):
            sentence, tables, _ = sampler.case()
            pair = made(sentence, widths_of(tables))
            for _ in range(4):
                others = [(wide, [sampler.row(wide) for _ in range(3)]) for wide, _ in tables]
                rows = [row for row, _ in run(sentence, others)]
                self.assertEqual([back(row) for row in plain_rows(pair[1], flat(others, 1))], rows)
                rows = [row for row, mark in run(sentence, others) if mark == "sure"]
                self.assertEqual([back(row) for row in plain_rows(pair[0], flat(others, 2))], rows)

    def test_many_sentences_over_many_tables(self):
        sampler = Sampler(13)
        for _ in range(500):
            sentence, tables, _ = sampler.case()
            self.tells_the_same(sentence, tables)


if __name__ == "__main__":
    unittest.main()
