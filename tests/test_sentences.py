"""Points 5 and 7: the rows that each sentence tells, in turn, each with its truth."""

import unittest

from gaprows.running import run
from tests.oracle import expected
from tests.samples import Sampler

G0, G1, G2 = ("gap", 0), ("gap", 1), ("gap", 2)
R0, R1, R2 = ("rows", 0), ("rows", 1), ("rows", 2)


def is_num(column, number):
    return ("is", ("col", column), ("num", number))


def sure(*rows):
    return [(row, "sure") for row in rows]


def maybe(*rows):
    return [(row, "maybe") for row in rows]


class Sentences(unittest.TestCase):
    def told(self, sentence, tables, rows):
        self.assertEqual(run(sentence, tables), rows)

    def test_rows(self):
        tables = [(2, [(1, 2), (G0, G1), (1, 2), (0, G0)]), (1, []), (1, [(9,)])]
        self.told(R0, tables, sure((1, 2), (G0, G1), (1, 2), (0, G0)))
        self.told(R1, tables, [])
        self.told(R2, tables, sure((9,)))

    def test_rows_of_the_most_and_the_widest(self):
        rows = [(6 - at, G0, at, G1) for at in range(6)]
        self.told(R0, [(4, rows)], sure(*rows))

    def test_keep(self):
        tables = [(2, [(3, 1), (G0, 2), (4, 3), (3, 1), (G1, 4), (G0, 2)])]
        self.told(("keep", R0, is_num(0, 3)), tables,
                  sure((3, 1)) + maybe((G0, 2)) + sure((3, 1)) + maybe((G1, 4), (G0, 2)))
        self.told(("keep", R0, ("not", is_num(0, 3))), tables,
                  maybe((G0, 2)) + sure((4, 3)) + maybe((G1, 4), (G0, 2)))
        self.told(("keep", R0, ("lacks", ("col", 0))), tables, sure((G0, 2), (G1, 4), (G0, 2)))
        self.told(("keep", R0, is_num(1, 9)), tables, [])
        self.told(("keep", R0, ("less", ("col", 1), ("num", 4))), tables,
                  sure((3, 1), (G0, 2), (4, 3), (3, 1), (G0, 2)))

    def test_keep_of_keep(self):
        tables = [(2, [(3, 1), (G0, 2), (4, G1), (3, G1), (G1, G0)])]
        first = ("keep", R0, is_num(0, 3))
        self.told(first, tables, sure((3, 1)) + maybe((G0, 2)) + sure((3, G1)) + maybe((G1, G0)))
        self.told(("keep", first, ("is", ("num", 1), ("num", 1))), tables,
                  sure((3, 1)) + maybe((G0, 2)) + sure((3, G1)) + maybe((G1, G0)))
        self.told(("keep", first, is_num(1, 2)), tables, maybe((G0, 2), (3, G1), (G1, G0)))
        self.told(("keep", first, ("lacks", ("col", 0))), tables, maybe((G0, 2), (G1, G0)))
        self.told(("keep", first, ("not", is_num(1, 2))), tables, sure((3, 1)) + maybe((3, G1), (G1, G0)))

    def test_a_row_kept_by_one_condition_or_its_opposite_is_maybe(self):
        tables = [(1, [(G0,), (1,)])]
        self.told(("keep", R0, ("or", is_num(0, 1), ("not", is_num(0, 1)))), tables,
                  maybe((G0,)) + sure((1,)))
        self.told(("keep", R0, ("true", is_num(0, 1))), tables, sure((1,)))

    def test_keep_of_an_empty_table(self):
        self.told(("keep", R0, ("lacks", ("col", 0))), [(1, [])], [])

    def test_pick(self):
        tables = [(3, [(1, 2, G0), (3, G1, 4), (1, 2, G0)])]
        self.told(("pick", R0, (0,)), tables, sure((1,), (3,), (1,)))
        self.told(("pick", R0, (2, 0)), tables, sure((G0, 1), (4, 3), (G0, 1)))
        self.told(("pick", R0, (1, 1)), tables, sure((2, 2), (G1, G1), (2, 2)))
        self.told(("pick", R0, (0, 1, 2)), tables, sure((1, 2, G0), (3, G1, 4), (1, 2, G0)))
        self.told(("pick", R0, (2, 2, 1, 0, 0, 1, 2, 2)), tables,
                  sure((G0, G0, 2, 1, 1, 2, G0, G0), (4, 4, G1, 3, 3, G1, 4, 4), (G0, G0, 2, 1, 1, 2, G0, G0)))
        self.told(("pick", R0, (0,)), [(3, [])], [])

    def test_pick_keeps_truths(self):
        tables = [(2, [(1, 5), (G0, 6), (2, 7), (1, 8)])]
        self.told(("pick", ("keep", R0, is_num(0, 1)), (1,)), tables, sure((5,)) + maybe((6,)) + sure((8,)))
        self.told(("pick", ("pick", R0, (1, 0)), (1,)), tables, sure((1,), (G0,), (2,), (1,)))

    def test_join(self):
        tables = [(2, [(1, 2), (G0, 3), (5, 4)]), (2, [(2, 7), (1, 8), (G0, 9), (G1, 6)])]
        self.told(("join", R0, R1, ((0, 0),)), tables,
                  sure((1, 2, 1, 8)) + maybe((1, 2, G0, 9), (1, 2, G1, 6), (G0, 3, 2, 7), (G0, 3, 1, 8))
                  + sure((G0, 3, G0, 9)) + maybe((G0, 3, G1, 6), (5, 4, G0, 9), (5, 4, G1, 6)))
        self.told(("join", R0, R1, ((1, 0),)), tables,
                  sure((1, 2, 2, 7)) + maybe((1, 2, G0, 9), (1, 2, G1, 6), (G0, 3, G0, 9), (G0, 3, G1, 6),
                                             (5, 4, G0, 9), (5, 4, G1, 6)))

    def test_join_by_no_pairs(self):
        tables = [(1, [(1,), (G0,), (1,)]), (2, [(3, 4), (G0, G1)])]
        self.told(("join", R0, R1, ()), tables,
                  sure((1, 3, 4), (1, G0, G1), (G0, 3, 4), (G0, G0, G1), (1, 3, 4), (1, G0, G1)))
        self.told(("join", R1, R0, ()), tables,
                  sure((3, 4, 1), (3, 4, G0), (3, 4, 1), (G0, G1, 1), (G0, G1, G0), (G0, G1, 1)))

    def test_join_by_several_pairs(self):
        tables = [(2, [(1, 2), (1, G0), (G1, 2)]), (2, [(2, 1), (G0, 1), (2, 3), (5, G1), (2, G1)])]
        self.told(("join", R0, R1, ((0, 1), (1, 0))), tables,
                  sure((1, 2, 2, 1)) + maybe((1, 2, G0, 1), (1, 2, 2, G1))
                  + maybe((1, G0, 2, 1)) + sure((1, G0, G0, 1)) + maybe((1, G0, 5, G1), (1, G0, 2, G1))
                  + maybe((G1, 2, 2, 1), (G1, 2, G0, 1), (G1, 2, 2, 3)) + sure((G1, 2, 2, G1)))
        self.told(("join", R0, R1, ((0, 0), (0, 1))), tables,
                  maybe((1, 2, G0, 1), (1, G0, G0, 1), (G1, 2, 2, 1), (G1, 2, G0, 1), (G1, 2, 2, 3),
                        (G1, 2, 5, G1), (G1, 2, 2, G1)))

    def test_join_of_rows_that_may_be(self):
        tables = [(1, [(1,), (G0,)]), (1, [(2,), (G1,)])]
        one, other = ("keep", R0, is_num(0, 1)), ("keep", R1, is_num(0, 2))
        self.told(("join", one, other, ()), tables, sure((1, 2)) + maybe((1, G1), (G0, 2), (G0, G1)))
        self.told(("join", R0, other, ()), tables,
                  sure((1, 2)) + maybe((1, G1)) + sure((G0, 2)) + maybe((G0, G1)))
        self.told(("join", one, R1, ()), tables, sure((1, 2), (1, G1)) + maybe((G0, 2), (G0, G1)))
        self.told(("join", one, one, ((0, 0),)), tables, sure((1, 1)) + maybe((1, G0), (G0, 1), (G0, G0)))

    def test_join_of_eight_columns(self):
        tables = [(4, [(1, 2, 3, G0)]), (4, [(G0, 6, 7, 8), (9, 6, 7, 8)])]
        self.told(("join", R0, R1, ((3, 0),)), tables,
                  sure((1, 2, 3, G0, G0, 6, 7, 8)) + maybe((1, 2, 3, G0, 9, 6, 7, 8)))

    def test_join_with_an_empty_table(self):
        tables = [(1, [(1,)]), (1, [])]
        self.told(("join", R0, R1, ()), tables, [])
        self.told(("join", R1, R0, ((0, 0),)), tables, [])

    def test_both(self):
        tables = [(2, [(1, 2), (G0, 3)]), (2, [(1, 2), (0, G0)]), (2, [])]
        self.told(("both", R0, R1), tables, sure((1, 2), (G0, 3), (1, 2), (0, G0)))
        self.told(("both", R1, R0), tables, sure((1, 2), (0, G0), (1, 2), (G0, 3)))
        self.told(("both", R0, R0), tables, sure((1, 2), (G0, 3), (1, 2), (G0, 3)))
        self.told(("both", R0, R2), tables, sure((1, 2), (G0, 3)))
        self.told(("both", R2, R0), tables, sure((1, 2), (G0, 3)))
        self.told(("both", ("keep", R0, is_num(0, 0)), R1), tables, maybe((G0, 3)) + sure((1, 2), (0, G0)))
        self.told(("both", R1, ("keep", R0, is_num(0, 0))), tables, sure((1, 2), (0, G0)) + maybe((G0, 3)))

    def test_without(self):
        tables = [(1, [(1,), (2,), (1,), (3,)]), (1, [(1,), (4,)]), (1, [])]
        self.told(("without", R0, R1), tables, sure((2,), (3,)))
        self.told(("without", R1, R0), tables, sure((4,)))
        self.told(("without", R0, R0), tables, [])
        self.told(("without", R0, R2), tables, sure((1,), (2,), (1,), (3,)))
        self.told(("without", R2, R0), tables, [])

    def test_without_gaps(self):
        tables = [(1, [(1,), (G0,), (2,), (G1,)]), (1, [(1,), (G0,)])]
        # A gap is the same as itself, and may be the same as any number and any other gap.
        self.told(("without", R0, R1), tables, maybe((2,), (G1,)))
        self.told(("without", R1, R0), tables, [])
        tables = [(1, [(1,), (G0,), (2,)]), (1, [(1,)])]
        self.told(("without", R0, R1), tables, maybe((G0,)) + sure((2,)))

    def test_without_by_all_columns(self):
        tables = [(2, [(1, 2), (1, 3), (G0, 2), (G0, 3), (1, G1), (4, 4)]), (2, [(1, 2), (G0, 3)])]
        self.told(("without", R0, R1), tables,
                  maybe((1, 3), (G0, 2)) + maybe((1, G1)) + sure((4, 4)))

    def test_without_a_row_that_may_be(self):
        tables = [(1, [(1,), (2,), (G0,)]), (2, [(1, G1), (2, 5)])]
        other = ("pick", ("keep", R1, is_num(1, 5)), (0,))
        self.told(other, tables, maybe((1,)) + sure((2,)))
        self.told(("without", R0, other), tables, maybe((1,), (G0,)))
        only = ("pick", ("keep", R1, is_num(1, 6)), (0,))
        self.told(("without", R0, only), tables, maybe((1,)) + sure((2,)) + maybe((G0,)))

    def test_without_a_row_that_both_may_be_and_is_sure(self):
        tables = [(1, [(1,), (3,)]), (1, [(G0,), (1,)]), (1, [(1,), (G0,)])]
        self.told(("without", R0, R1), tables, maybe((3,)))
        self.told(("without", R0, R2), tables, maybe((3,)))

    def test_without_of_rows_that_may_be(self):
        tables = [(2, [(1, G0), (2, 7), (3, G0), (4, 8)]), (2, [(1, 9), (3, G1), (4, 8)])]
        one = ("keep", R0, is_num(1, 7))
        self.told(one, tables, maybe((1, G0)) + sure((2, 7)) + maybe((3, G0)))
        self.told(("without", one, R1), tables, maybe((1, G0)) + sure((2, 7)) + maybe((3, G0)))
        self.told(("without", one, R0), tables, [])

    def test_without_without(self):
        tables = [(1, [(1,), (2,), (3,)]), (1, [(2,), (G0,)]), (1, [(2,)])]
        inner = ("without", R1, R2)
        self.told(inner, tables, maybe((G0,)))
        self.told(("without", R0, inner), tables, maybe((1,), (2,), (3,)))
        self.told(("without", R0, ("without", R0, R2)), tables, sure((2,)))
        self.told(("without", ("without", R0, R2), R1), tables, maybe((1,), (3,)))

    def test_sentences_within_sentences(self):
        tables = [(2, [(1, 2), (G0, 2), (3, 4)]), (1, [(3,), (1,)])]
        joined = ("join", R0, R1, ((0, 0),))
        picked = ("pick", ("keep", joined, ("not", is_num(1, 4))), (2, 1))
        self.told(joined, tables, sure((1, 2, 1)) + maybe((G0, 2, 3), (G0, 2, 1)) + sure((3, 4, 3)))
        self.told(picked, tables, sure((1, 2)) + maybe((3, 2), (1, 2)))
        self.told(("without", picked, R0), tables, maybe((3, 2)))
        self.told(("both", ("without", R0, picked), picked), tables,
                  maybe((G0, 2)) + sure((3, 4)) + sure((1, 2)) + maybe((3, 2), (1, 2)))

    def test_many_sentences_over_many_tables(self):
        sampler = Sampler(5)
        for _ in range(1500):
            sentence, tables, wide = sampler.case()
            told = run(sentence, tables)
            self.assertEqual(told, expected(sentence, tables), (sentence, tables))
            self.assertEqual({len(row) for row, _ in told} - {wide}, set())


if __name__ == "__main__":
    unittest.main()
