"""The interface: names, arguments and the kinds of what is told."""

import inspect
import unittest

from gaprows import making, plain, running

LISTED = (
    (running, "run", ["sentence", "tables"]),
    (running, "three", ["condition", "row"]),
    (making, "made", ["sentence", "widths"]),
    (making, "back", ["row"]),
    (making, "flat", ["tables", "beneath"]),
    (plain, "plain_rows", ["sentence", "flats"]),
)


class Interface(unittest.TestCase):
    def test_names_arguments_and_files(self):
        for module, name, arguments in LISTED:
            with self.subTest(name):
                function = getattr(module, name)
                self.assertEqual(function.__module__, module.__name__)
                self.assertEqual(list(inspect.signature(function).parameters), arguments)

    def test_arguments_by_name(self):
        tables = [(1, [(("gap", 4),)])]
        self.assertEqual(running.run(sentence=("rows", 0), tables=tables), [((("gap", 4),), "sure")])
        self.assertIs(running.three(condition=("lacks", ("col", 0)), row=(5,)), False)
        flats = making.flat(tables=tables, beneath=8)
        self.assertEqual(flats, [[(5, 8)]])
        self.assertEqual(making.back(row=(5, 8)), (("gap", 4),))
        sure, every = making.made(sentence=("rows", 0), widths=[1])
        self.assertEqual(plain.plain_rows(sentence=sure, flats=flats), [(5, 8)])
        self.assertEqual(plain.plain_rows(sentence=every, flats=flats), [(5, 8)])

    def test_kinds(self):
        tables = [(2, [(1, ("gap", 0)), (1, 2)])]
        keep = ("keep", ("rows", 0), ("is", ("col", 1), ("num", 2)))
        for sentence in (("rows", 0), keep, ("pick", keep, (1,)), ("join", keep, keep, ()),
                         ("both", keep, keep), ("without", ("rows", 0), keep)):
            with self.subTest(sentence=sentence):
                told = running.run(sentence, tables)
                self.assertIs(type(told), list)
                for pair in told:
                    self.assertIs(type(pair), tuple)
                    row, mark = pair
                    self.assertIs(type(row), tuple)
                    self.assertIn(mark, ("sure", "maybe"))
                pairs = making.made(sentence, [2])
                self.assertIs(type(pairs), tuple)
                self.assertEqual(len(pairs), 2)
                flats = making.flat(tables, 0)
                for one in pairs:
                    self.assertIs(type(one), tuple)
                    rows = plain.plain_rows(one, flats)
                    self.assertIs(type(rows), list)
                    self.assertEqual({type(row) for row in rows} - {tuple}, set())

    def test_kinds_of_flat_and_back(self):
        flats = making.flat([(1, [(3,)]), (1, [])], 0)
        self.assertIs(type(flats), list)
        self.assertEqual([type(rows) for rows in flats], [list, list])
        self.assertIs(type(flats[0][0]), tuple)
        self.assertIs(type(making.back(flats[0][0])), tuple)


if __name__ == "__main__":
    unittest.main()
