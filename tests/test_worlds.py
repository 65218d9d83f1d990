"""Points 11 and 12: fillings, rows there by every filling and by some, and fillings that show it."""

import unittest
from collections import Counter

from gaprows.errors import BadSentence, BadTables, BadTop, TooMany
from gaprows.running import run
from gaprows.worlds import may, shown, surely
from tests.oracle import names_in, worlds
from tests.samples import Sampler

G0, G1, G2, G7, G9 = ("gap", 0), ("gap", 1), ("gap", 2), ("gap", 7), ("gap", 9)
R0, R1 = ("rows", 0), ("rows", 1)
COL, OTHER = ("col", 0), ("col", 1)
ONE = ("is", COL, ("num", 1))


def many_gaps(many):
    """Tables with gaps of so many names."""
    gaps = [(("gap", name),) for name in range(many)]
    return [(1, gaps[:5]), (1, gaps[5:] + [(3,)])]


class Listed(unittest.TestCase):
    def test_tables_without_gaps(self):
        tables = [(2, [(3, 1), (1, 2), (3, 1), (0, 9)])]
        for top in (0, 5, 9):
            rows = [((0, 9), 1), ((1, 2), 1), ((3, 1), 2)]
            self.assertEqual(surely(R0, tables, top), rows)
            self.assertEqual(may(R0, tables, top), rows)
            self.assertEqual(surely(("keep", R0, ONE), tables, top), [((1, 2), 1)])

    def test_no_rows(self):
        self.assertEqual(surely(R0, [(1, [])], 3), [])
        self.assertEqual(may(R0, [(1, [])], 3), [])
        self.assertEqual(shown(R0, [(1, [])], 3, (0,), 1), (None, []))

    def test_one_gap(self):
        tables = [(1, [(G0,), (1,)])]
        self.assertEqual(surely(R0, tables, 2), [((1,), 1)])
        self.assertEqual(may(R0, tables, 2), [((0,), 1), ((1,), 2), ((2,), 1)])
        self.assertEqual(surely(R0, tables, 0), [((0,), 1), ((1,), 1)])
        self.assertEqual(may(R0, tables, 0), [((0,), 1), ((1,), 1)])

    def test_gaps_of_one_name_are_one_number(self):
        tables = [(2, [(gap, gap) for gap in (G0, G0, G1)])]
        alike = ("keep", R0, ("is", COL, OTHER))
        self.assertEqual(surely(alike, tables, 1), [])
        self.assertEqual(may(alike, tables, 1), [((0, 0), 3), ((1, 1), 3)])
        self.assertEqual(may(("keep", R0, ("less", COL, OTHER)), tables, 1), [])
        tables = [(1, [(G0,)]), (1, [(G0,)])]
        self.assertEqual(may(("without", R0, R1), tables, 4), [])
        self.assertEqual(may(("join", R0, R1, ()), tables, 1), [((0, 0), 1), ((1, 1), 1)])

    def test_the_least_and_the_most_times(self):
        tables = [(1, [(G0,), (G0,), (1,), (G1,), (1,)])]
        self.assertEqual(surely(R0, tables, 1), [((1,), 2)])
        self.assertEqual(may(R0, tables, 1), [((0,), 3), ((1,), 5)])
        kept = ("keep", R0, ("not", ONE))
        self.assertEqual(surely(kept, tables, 1), [])
        self.assertEqual(may(kept, tables, 1), [((0,), 3)])

    def test_a_row_told_as_maybe_is_there_by_every_filling(self):
        tables = [(1, [(G0,), (5,)])]
        sentence = ("keep", ("join", R0, R0, ()), ("or", ("less", COL, ("num", 3)), ("not", ("less", COL, ("num", 3)))))
        self.assertEqual(run(sentence, tables)[0], ((G0, G0), "maybe"))
        self.assertEqual(surely(("pick", ("keep", sentence, ("is", OTHER, ("num", 5))), (1,)), tables, 4), [((5,), 2)])

    def test_nothing_lacks_by_a_filling(self):
        tables = [(1, [(G0,), (4,)])]
        self.assertEqual(run(("keep", R0, ("lacks", COL)), tables), [((G0,), "sure")])
        self.assertEqual(may(("keep", R0, ("lacks", COL)), tables, 4), [])
        self.assertEqual(surely(("keep", R0, ("not", ("lacks", COL))), tables, 4), [((4,), 1)])
        self.assertEqual(may(("keep", R0, ("true", ONE)), tables, 4), [((1,), 1)])

    def test_rising(self):
        tables = [(2, [(10, 2), (9, 50), (9, 7), (G0, 3), (10, 1)])]
        self.assertEqual(surely(R0, tables, 0), [((0, 3), 1), ((9, 7), 1), ((9, 50), 1), ((10, 1), 1), ((10, 2), 1)])
        self.assertEqual([row for row, _ in may(R0, tables, 9)],
                         [(number, 3) for number in range(9)] + [(9, 3), (9, 7), (9, 50), (10, 1), (10, 2)])


class Shown(unittest.TestCase):
    def test_how_often(self):
        tables = [(1, [(G0,), (1,), (G1,)])]
        self.assertEqual(shown(R0, tables, 2, (1,), 1), ([(0, 0), (1, 0)], None))
        self.assertEqual(shown(R0, tables, 2, (1,), 2), ([(0, 0), (1, 1)], [(0, 0), (1, 0)]))
        self.assertEqual(shown(R0, tables, 2, (1,), 3), ([(0, 1), (1, 1)], [(0, 0), (1, 0)]))
        self.assertEqual(shown(R0, tables, 2, (1,), 4), (None, [(0, 0), (1, 0)]))
        self.assertEqual(shown(R0, tables, 2, (0,), 1), ([(0, 0), (1, 0)], [(0, 1), (1, 1)]))
        self.assertEqual(shown(R0, tables, 2, (0,), 2), ([(0, 0), (1, 0)], [(0, 0), (1, 1)]))

    def test_nought_and_below_are_there_by_every_filling(self):
        tables = [(1, [(G1,), (1,), (G0,)])]
        for row in ((1,), (0,), (77,)):
            for many in (0, -1, -100):
                self.assertEqual(shown(R0, tables, 3, row, many), ([(0, 0), (1, 0)], None))

    def test_rows_that_are_never_there(self):
        tables = [(1, [(G1,), (1,)])]
        for row in ((9,), (1, 1), (), (G1,)):
            self.assertEqual(shown(R0, tables, 3, row, 1), (None, [(1, 0)]))
            self.assertEqual(shown(R0, tables, 3, row, 0), ([(1, 0)], None))

    def test_tables_without_gaps_have_one_filling(self):
        tables = [(1, [(4,), (4,)])]
        self.assertEqual(shown(R0, tables, 3, (4,), 2), ([], None))
        self.assertEqual(shown(R0, tables, 3, (4,), 3), (None, []))

    def test_fillings_ascend_as_the_gaps_are_met_and_are_told_by_names(self):
        tables = [(2, [(G7, 1), (G2, G7)]), (1, [(G0,), (G9,)])]
        self.assertEqual(shown(R0, tables, 3, (0, 1), 1), ([(0, 0), (2, 0), (7, 0), (9, 0)],
                                                           [(0, 0), (2, 1), (7, 1), (9, 0)]))
        self.assertEqual(shown(R0, tables, 3, (1, 0), 1)[0], [(0, 0), (2, 1), (7, 0), (9, 0)])
        self.assertEqual(shown(R1, tables, 3, (3,), 2)[0], [(0, 3), (2, 0), (7, 0), (9, 3)])
        self.assertEqual(shown(R1, tables, 3, (3,), 1)[0], [(0, 0), (2, 0), (7, 0), (9, 3)])
        self.assertEqual(shown(R1, tables, 3, (0,), 1)[1], [(0, 1), (2, 0), (7, 0), (9, 1)])
        # By the gap that is met first the first filling goes up last.
        either = ("both", ("pick", ("keep", R0, ("is", COL, ("num", 2))), (0,)), ("keep", R1, ("is", COL, ("num", 2))))
        self.assertEqual(shown(either, tables, 3, (2,), 1)[0], [(0, 0), (2, 0), (7, 0), (9, 2)])
        self.assertEqual(shown(either, tables, 3, (2,), 3)[0], [(0, 2), (2, 2), (7, 0), (9, 2)])

    def test_met_row_by_row_and_cell_by_cell(self):
        tables = [(2, [(G9, G1), (G0, G9)])]
        two = ("keep", R0, ("is", ("plus", COL, OTHER), ("num", 1)))
        self.assertEqual(shown(two, tables, 1, (0, 1), 1)[0], [(0, 0), (1, 1), (9, 0)])
        self.assertEqual(shown(two, tables, 1, (1, 0), 1)[0], [(0, 1), (1, 0), (9, 0)])

    def test_gaps_that_the_sentence_does_not_tell_are_filled_too(self):
        tables = [(1, [(G2,)]), (1, [(G1,)])]
        self.assertEqual(shown(R1, tables, 2, (1,), 1), ([(1, 1), (2, 0)], [(1, 0), (2, 0)]))


class Compared(unittest.TestCase):
    def compare(self, sentence, tables, top):
        told = worlds(sentence, tables, top)
        counts = [Counter(rows) for _, rows in told]
        rows = sorted(set().union(*counts))
        least = [(row, min(count[row] for count in counts)) for row in rows]
        most = [(row, max(count[row] for count in counts)) for row in rows]
        self.assertEqual(surely(sentence, tables, top), [(row, many) for row, many in least if many])
        self.assertEqual(may(sentence, tables, top), most)
        for row, many in most[:3]:
            for often in range(-1, many + 2):
                firsts = [next((sorted(filling.items()) for (filling, _), count in zip(told, counts)
                                if (count[row] >= often) is there), None) for there in (True, False)]
                self.assertEqual(shown(sentence, tables, top, row, often), tuple(firsts), (sentence, tables, row))

    def test_many_sentences_over_many_tables(self):
        sampler = Sampler(31, names=4)
        for _ in range(400):
            sentence, tables, _ = sampler.case()
            self.compare(sentence, tables, sampler.dice.choice((0, 1, 1, 2, 3)))

    def test_gaps_of_many_names(self):
        sampler = Sampler(37, names=10, gaps=0.3)
        done = 0
        while done < 60:
            sentence, tables, _ = sampler.case(depth=2)
            if 3 <= len(names_in(tables)) <= 6:
                self.compare(sentence, tables, 1)
                done += 1

    def test_greatest_numbers(self):
        tables = [(2, [(G0, 9), (8, G1), (9, 9)])]
        for top in range(10):
            self.compare(R0, tables, top)
            self.compare(("keep", R0, ("is", COL, OTHER)), tables, top)
            self.assertEqual(shown(("pick", R0, (0,)), tables, top, (top,), 1)[0], [(0, top if top < 8 else 0), (1, 0)])


class Refused(unittest.TestCase):
    FUNCTIONS = (surely, may, lambda sentence, tables, top: shown(sentence, tables, top, (1,), 1))

    def refused(self, error, sentence, tables, top):
        for function in self.FUNCTIONS:
            with self.subTest(error=error, tables=tables, top=top):
                with self.assertRaises(error):
                    function(sentence, tables, top)

    def test_tops(self):
        for tables in ([(1, [(G0,)])], [(1, [(5,)])], [(1, [])]):
            for top in (-1, 10, 11, 99, -10, 1000):
                self.refused(BadTop, R0, tables, top)
            for top in range(10):
                for function in self.FUNCTIONS:
                    function(R0, tables, top)

    def test_more_than_800_fillings(self):
        for top in range(10):
            for names in range(11):
                tables = many_gaps(names)
                if (top + 1) ** names > 800:
                    self.refused(TooMany, R0, tables, top)
                else:
                    for function in self.FUNCTIONS:
                        function(R0, tables, top)

    def test_gaps_of_other_tables_count(self):
        tables = [(1, [(3,)]), (1, [(("gap", name),) for name in range(3)])]
        self.refused(TooMany, R0, tables, 9)
        self.assertEqual(surely(R0, tables, 8), [((3,), 1)])

    def test_which_is_refused_first(self):
        bad_tables, many = [(1, [(100,)])], many_gaps(10)
        for top in (-1, 10, 5):
            for sentence in (None, ("rows", 5), R0):
                self.refused(BadTables, sentence, bad_tables, top)
                self.refused(BadTables, sentence, many + [(1, [()])], top)
            for sentence in (None, ("rows", 5)):
                self.refused(BadSentence, sentence, many, top)
        for top in (-1, 10):
            self.refused(BadTop, R0, many, top)
        self.refused(TooMany, R0, many, 9)
        self.refused(TooMany, R0, many, 1)
        # Behind all else, also what is not gone through.
        self.refused(BadSentence, ("keep", R0, ("lacks", COL, COL)), many, 9)

    def test_too_many_whatever_is_asked_of_shown(self):
        for row, many in (((1,), 0), ((1, 2, 3), 1), ((), -1)):
            with self.assertRaises(TooMany):
                shown(R0, many_gaps(10), 1, row, many)


if __name__ == "__main__":
    unittest.main()
