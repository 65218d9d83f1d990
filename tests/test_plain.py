"""Points 8 and 9: plain rows, and plain parts, conditions and sentences."""

import unittest

from gaprows.errors import BadTables, BadTop
from gaprows.making import back, flat
from gaprows.plain import plain_rows
from tests.samples import Sampler

R0, R1, R2 = ("rows", 0), ("rows", 1), ("rows", 2)
TRUE, FALSE = ("all", ()), ("any", ())


def cell(place):
    return ("cell", place)


def num(number):
    return ("num", number)


class Flat(unittest.TestCase):
    def test_flags_and_worths(self):
        tables = [(3, [(7, ("gap", 0), 0), (("gap", 9), 99, ("gap", 4))]), (1, []), (1, [(("gap", 1),)])]
        self.assertEqual(flat(tables, 5), [[(0, 7, 1, 5, 0, 0), (10, 5, 0, 99, 5, 5)], [], [(2, 5)]])

    def test_all_names_and_numbers(self):
        for name in range(10):
            for beneath in (0, 1, name, 50, 99):
                self.assertEqual(flat([(1, [(("gap", name),)])], beneath), [[(name + 1, beneath)]])
        for number in range(100):
            self.assertEqual(flat([(1, [(number,)])], 99), [[(0, number)]])

    def test_rows_stand_in_turn(self):
        tables = [(1, [(2,), (("gap", 3),), (1,), (2,)]), (2, [(4, 3)])]
        self.assertEqual(flat(tables, 0), [[(0, 2), (4, 0), (0, 1), (0, 2)], [(0, 4, 0, 3)]])

    def test_what_can_not_lie_beneath(self):
        for tables in ([(1, [(("gap", 3),)])], [(1, [(3,)])], [(1, [])]):
            for beneath in (-1, 100, 101, -99, 1000):
                with self.subTest(tables=tables, beneath=beneath):
                    with self.assertRaises(BadTop):
                        flat(tables, beneath)
            for beneath in range(100):
                flat(tables, beneath)

    def test_tables_are_refused_first(self):
        with self.assertRaises(BadTables) as caught:
            flat([(1, []), (1, [(2,), ()])], 100)
        self.assertEqual((caught.exception.table, caught.exception.row), (1, 1))


class Back(unittest.TestCase):
    def test_numbers_and_gaps(self):
        self.assertEqual(back((0, 7)), (7,))
        self.assertEqual(back((1, 7)), (("gap", 0),))
        self.assertEqual(back((10, 0)), (("gap", 9),))
        self.assertEqual(back((0, 0, 4, 9, 0, 99, 1, 0)), (0, ("gap", 3), 99, ("gap", 0)))
        self.assertEqual(back((0, 1, 0, 2, 0, 3, 0, 4, 5, 5, 0, 6, 0, 7, 0, 8)), (1, 2, 3, 4, ("gap", 4), 6, 7, 8))

    def test_any_number_may_lie_beneath(self):
        for beneath in (-5, 0, 3, 99, 100, 1000):
            self.assertEqual(back((3, beneath, 0, 3)), (("gap", 2), 3))

    def test_back_of_flat(self):
        sampler = Sampler(8, high=99, names=10)
        for _ in range(200):
            tables = sampler.tables(wide=4, most=6)
            for beneath in (0, 42, 99):
                told = [[back(row) for row in rows] for rows in flat(tables, beneath)]
                self.assertEqual(told, [rows for _, rows in tables])


class Conditions(unittest.TestCase):
    def so(self, condition, truth, row=(4, 7, 4, 0)):
        with self.subTest(condition=condition):
            self.assertEqual(plain_rows(("keep", R0, condition), [[row]]), [row] if truth else [])

    def test_eq_and_lt(self):
        self.so(("eq", cell(0), cell(2)), True)
        self.so(("eq", cell(0), cell(1)), False)
        self.so(("eq", cell(1), num(7)), True)
        self.so(("eq", num(7), num(8)), False)
        self.so(("eq", num(8), num(8)), True)
        self.so(("lt", cell(0), cell(1)), True)
        self.so(("lt", cell(1), cell(0)), False)
        self.so(("lt", cell(0), cell(2)), False)
        self.so(("lt", num(3), cell(0)), True)
        self.so(("lt", cell(0), num(3)), False)

    def test_plus_and_take(self):
        self.so(("eq", ("plus", cell(0), cell(1)), num(11)), True)
        self.so(("eq", ("take", cell(1), cell(0)), num(3)), True)
        self.so(("eq", ("take", cell(0), cell(1)), num(3)), False)
        self.so(("lt", ("take", cell(0), cell(1)), num(0)), True)
        self.so(("lt", ("take", cell(0), cell(1)), ("take", num(0), num(2))), True)
        self.so(("eq", ("plus", ("plus", cell(0), num(1)), ("take", cell(1), num(2))), num(10)), True)
        self.so(("eq", ("take", ("take", num(9), num(4)), num(3)), num(2)), True)
        self.so(("eq", ("take", num(9), ("take", num(4), num(3))), num(8)), True)
        self.so(("lt", num(99), ("plus", num(99), num(1))), True)

    def test_no(self):
        self.so(("no", TRUE), False)
        self.so(("no", FALSE), True)
        self.so(("no", ("eq", cell(0), cell(2))), False)
        self.so(("no", ("lt", cell(1), cell(0))), True)
        self.so(("no", ("no", ("eq", cell(0), cell(2)))), True)

    def test_all_and_any_of_none(self):
        self.so(("all", ()), True)
        self.so(("any", ()), False)

    def test_all_and_any(self):
        for many in (1, 2, 3, 4):
            for bits in range(2 ** many):
                truths = [bool(bits >> at & 1) for at in range(many)]
                conditions = tuple(TRUE if truth else ("eq", num(0), num(1)) for truth in truths)
                self.so(("all", conditions), all(truths))
                self.so(("any", conditions), any(truths))

    def test_deep_ones(self):
        condition = ("eq", cell(0), cell(2))
        for _ in range(30):
            condition = ("no", ("all", (TRUE, ("any", (FALSE, condition)))))
        self.so(condition, True)
        self.so(("no", condition), False)

    def test_no_flag_is_heeded(self):
        self.so(("eq", cell(1), cell(3)), True, (1, 5, 2, 5))
        self.so(("eq", cell(1), cell(3)), False, (1, 5, 1, 6))
        self.so(("lt", cell(1), cell(3)), True, (0, 5, 1, 6))
        self.so(("eq", ("plus", cell(1), cell(3)), num(11)), True, (1, 5, 1, 6))


class Sentences(unittest.TestCase):
    def setUp(self):
        self.flats = [[(0, 1, 0, 2), (1, 7, 0, 3), (0, 1, 0, 2)], [(0, 1), (0, 3)], []]

    def told(self, sentence, rows):
        self.assertEqual(plain_rows(sentence, self.flats), rows)

    def test_rows(self):
        self.told(R0, [(0, 1, 0, 2), (1, 7, 0, 3), (0, 1, 0, 2)])
        self.told(R1, [(0, 1), (0, 3)])
        self.told(R2, [])

    def test_keep(self):
        self.told(("keep", R0, ("eq", cell(3), num(2))), [(0, 1, 0, 2), (0, 1, 0, 2)])
        self.told(("keep", R0, ("lt", num(0), cell(0))), [(1, 7, 0, 3)])
        self.told(("keep", R0, ("lt", num(9), cell(0))), [])
        self.told(("keep", ("keep", R0, ("lt", cell(1), num(8))), ("no", ("eq", cell(1), num(1)))), [(1, 7, 0, 3)])
        self.told(("keep", R2, TRUE), [])

    def test_pick(self):
        self.told(("pick", R0, (3,)), [(2,), (3,), (2,)])
        self.told(("pick", R0, (2, 3, 0, 1)), [(0, 2, 0, 1), (0, 3, 1, 7), (0, 2, 0, 1)])
        self.told(("pick", R1, (1, 1, 1)), [(1, 1, 1), (3, 3, 3)])
        self.told(("pick", R1, (1, 0) * 8), [(1, 0) * 8, (3, 0) * 8])
        self.told(("pick", R2, (0,)), [])

    def test_both(self):
        self.told(("both", R1, R1), [(0, 1), (0, 3), (0, 1), (0, 3)])
        self.told(("both", R1, ("pick", R0, (0, 1))), [(0, 1), (0, 3), (0, 1), (1, 7), (0, 1)])
        self.told(("both", ("pick", R0, (0, 1)), R1), [(0, 1), (1, 7), (0, 1), (0, 1), (0, 3)])
        self.told(("both", R1, R2), [(0, 1), (0, 3)])
        self.told(("both", R2, R1), [(0, 1), (0, 3)])

    def test_pair(self):
        self.told(("pair", R0, R1), [(0, 1, 0, 2, 0, 1), (0, 1, 0, 2, 0, 3), (1, 7, 0, 3, 0, 1), (1, 7, 0, 3, 0, 3),
                                     (0, 1, 0, 2, 0, 1), (0, 1, 0, 2, 0, 3)])
        self.told(("pair", R1, ("keep", R0, ("eq", cell(1), num(7)))), [(0, 1, 1, 7, 0, 3), (0, 3, 1, 7, 0, 3)])
        self.told(("pair", R1, R2), [])
        self.told(("pair", R2, R1), [])

    def test_missing(self):
        self.told(("missing", R0, R1, ("eq", cell(1), cell(5))), [(1, 7, 0, 3)])
        self.told(("missing", R0, R1, ("eq", cell(3), cell(5))), [(0, 1, 0, 2), (0, 1, 0, 2)])
        self.told(("missing", R1, R0, ("eq", cell(1), cell(3))), [(0, 3)])
        self.told(("missing", R1, R0, ("eq", cell(1), cell(5))), [(0, 1)])
        self.told(("missing", R1, R0, ("lt", cell(1), cell(3))), [])
        self.told(("missing", R1, R0, FALSE), [(0, 1), (0, 3)])
        self.told(("missing", R1, R0, TRUE), [])
        self.told(("missing", R1, R2, TRUE), [(0, 1), (0, 3)])
        self.told(("missing", R2, R1, FALSE), [])

    def test_missing_needs_none_not_all(self):
        # Of the second row of the other's alone, and of the first alone, the condition is so.
        self.told(("missing", R1, R1, ("eq", cell(3), num(3))), [])
        self.told(("missing", R1, R1, ("eq", cell(3), num(1))), [])
        self.told(("missing", R1, R1, ("all", (("eq", cell(1), num(1)), ("eq", cell(3), num(3))))), [(0, 3)])

    def test_rows_of_any_numbers_in_any_count(self):
        self.flats = [[]] * 4 + [[(-3, 150, 7), (2, -1, 7)]]
        self.told(("rows", 4), [(-3, 150, 7), (2, -1, 7)])
        self.told(("keep", ("rows", 4), ("lt", cell(0), num(0))), [(-3, 150, 7)])
        self.told(("pick", ("rows", 4), (1,)), [(150,), (-1,)])
        self.told(("missing", ("rows", 4), ("rows", 4), ("lt", cell(1), cell(4))), [(-3, 150, 7)])

    def test_sentences_within_sentences(self):
        paired = ("keep", ("pair", R0, R1), ("eq", cell(1), cell(5)))
        self.told(paired, [(0, 1, 0, 2, 0, 1), (0, 1, 0, 2, 0, 1)])
        self.told(("both", ("pick", paired, (4, 5)), ("missing", R1, ("pick", paired, (1,)), ("eq", cell(1), cell(2)))),
                  [(0, 1), (0, 1), (0, 3)])


if __name__ == "__main__":
    unittest.main()
