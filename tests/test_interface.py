"""The interface: names, arguments and the kinds of what is told."""

import inspect
import unittest

from gaprows import alike, making, notes, plain, running, sums, worlds

LISTED = (
    (running, "run", ["sentence", "tables"]),
    (running, "three", ["condition", "row"]),
    (making, "made", ["sentence", "widths"]),
    (making, "back", ["row"]),
    (making, "flat", ["tables", "beneath"]),
    (plain, "plain_rows", ["sentence", "flats"]),
    (worlds, "surely", ["sentence", "tables", "top"]),
    (worlds, "may", ["sentence", "tables", "top"]),
    (worlds, "shown", ["sentence", "tables", "top", "row", "many"]),
    (sums, "totals", ["sentence", "tables", "top", "key", "column"]),
    (sums, "spans", ["sentence", "tables", "top", "key", "column"]),
    (alike, "parted", ["one", "other", "wide", "top"]),
    (alike, "parted_by", ["one", "other", "widths", "top", "most"]),
    (notes, "written", ["sentence", "widths"]),
    (notes, "read", ["text", "widths"]),
)


class Interface(unittest.TestCase):
    def test_names_arguments_and_files(self):
        for module, name, arguments in LISTED:
            with self.subTest(name):
                function = getattr(module, name)
                self.assertEqual(function.__module__, module.__name__)
                self.assertEqual(list(inspect.signature(function).parameters), arguments)

    def test_arguments_by_name(self):
        tables = [(1, [(("gap", 4),)])]
        self.assertEqual(running.run(sentence=("rows", 0), tables=tables), [((("gap", 4),), "sure")])
        self.assertIs(running.three(condition=("lacks", ("col", 0)), row=(5,)), False)
        flats = making.flat(tables=tables, beneath=8)
        self.assertEqual(flats, [[(5, 8)]])
        self.assertEqual(making.back(row=(5, 8)), (("gap", 4),))
        sure, every = making.made(sentence=("rows", 0), widths=[1])
        self.assertEqual(plain.plain_rows(sentence=sure, flats=flats), [(5, 8)])
        self.assertEqual(plain.plain_rows(sentence=every, flats=flats), [(5, 8)])
        self.assertEqual(worlds.surely(sentence=("rows", 0), tables=tables, top=0), [((0,), 1)])
        self.assertEqual(worlds.may(sentence=("rows", 0), tables=tables, top=1), [((0,), 1), ((1,), 1)])
        self.assertEqual(worlds.shown(sentence=("rows", 0), tables=tables, top=1, row=(1,), many=1),
                         ([(4, 1)], [(4, 0)]))
        self.assertEqual(sums.totals(sentence=("rows", 0), tables=tables, top=1, key=0, column=0),
                         [(0, 0, 0), (1, 0, 1)])
        self.assertEqual(sums.spans(sentence=("rows", 0), tables=tables, top=1, key=0, column=0),
                         [(0, 0, 1), (1, 0, 1)])
        lacks = ("lacks", ("col", 0))
        self.assertEqual(alike.parted(one=lacks, other=("not", lacks), wide=1, top=0), (("gap", 0),))
        self.assertEqual(alike.parted_by(one=("rows", 0), other=("rows", 1), widths=[1, 1], top=0, most=1),
                         [(1, []), (1, [(("gap", 0),)])])
        self.assertEqual(notes.written(sentence=("rows", 0), widths=[1]), "rows 0")
        self.assertEqual(notes.read(text="rows 0", widths=[1]), ("rows", 0))

    def test_kinds(self):
        tables = [(2, [(1, ("gap", 0)), (1, 2)])]
        keep = ("keep", ("rows", 0), ("is", ("col", 1), ("num", 2)))
        for sentence in (("rows", 0), keep, ("pick", keep, (1,)), ("join", keep, keep, ()),
                         ("both", keep, keep), ("without", ("rows", 0), keep)):
            with self.subTest(sentence=sentence):
                told = running.run(sentence, tables)
                self.assertIs(type(told), list)
                for pair in told:
                    self.assertIs(type(pair), tuple)
                    row, mark = pair
                    self.assertIs(type(row), tuple)
                    self.assertIn(mark, ("sure", "maybe"))
                pairs = making.made(sentence, [2])
                self.assertIs(type(pairs), tuple)
                self.assertEqual(len(pairs), 2)
                flats = making.flat(tables, 0)
                for one in pairs:
                    self.assertIs(type(one), tuple)
                    rows = plain.plain_rows(one, flats)
                    self.assertIs(type(rows), list)
                    self.assertEqual({type(row) for row in rows} - {tuple}, set())

    def test_kinds_of_flat_and_back(self):
        flats = making.flat([(1, [(3,)]), (1, [])], 0)
        self.assertIs(type(flats), list)
        self.assertEqual([type(rows) for rows in flats], [list, list])
        self.assertIs(type(flats[0][0]), tuple)
        self.assertIs(type(making.back(flats[0][0])), tuple)

    def test_kinds_of_what_fillings_tell(self):
        tables = [(2, [(1, ("gap", 0)), (1, 2)])]
        for function in (worlds.surely, worlds.may):
            told = function(("rows", 0), tables, 3)
            self.assertIs(type(told), list)
            for pair in told:
                self.assertEqual([type(thing) for thing in (pair, *pair)], [tuple, tuple, int])
        told = worlds.shown(("rows", 0), tables, 3, (1, 1), 1)
        self.assertEqual([type(thing) for thing in (told, *told)], [tuple, list, list])
        self.assertEqual([type(thing) for thing in (told[0][0], *told[0][0])], [tuple, int, int])
        for function in (sums.totals, sums.spans):
            told = function(("rows", 0), tables, 3, 0, 1)
            self.assertIs(type(told), list)
            for sums_told in told:
                self.assertEqual([type(thing) for thing in (sums_told, *sums_told)], [tuple, int, int, int])

    def test_kinds_of_what_is_read_and_written(self):
        sentence = ("join", ("rows", 0), ("pick", ("rows", 0), (0,)), ((0, 0),))
        told = notes.written(sentence, [1])
        self.assertIs(type(told), str)
        found = notes.read(told, [1])
        for thing in (found, found[1], found[2], found[2][2], found[3], found[3][0]):
            self.assertIs(type(thing), tuple)
        self.assertEqual(notes.written(found, [1]), told)


if __name__ == "__main__":
    unittest.main()
