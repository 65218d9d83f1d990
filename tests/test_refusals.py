"""Points 6 and 7: what of sentences and conditions is refused, where, and in which order."""

import unittest

from gaprows.alike import parted, parted_by
from gaprows.errors import BadSentence
from gaprows.making import made
from gaprows.notes import read, written
from gaprows.running import run, three
from gaprows.sums import spans, totals
from gaprows.worlds import may, shown, surely
from tests.oracle import place_of_fault, text, thing_of
from tests.samples import things

WIDTHS = [2, 4, 3]
R0, R1, R2 = ("rows", 0), ("rows", 1), ("rows", 2)
COL, NUM = ("col", 0), ("num", 5)
SO = ("is", COL, NUM)
KINDS = (None, True, False, 0, 7, -1, "", "rows", "is", "col", (), ((),), (None,), (True,), (3,), ("",), ("x",),
         ("x", 1), (("rows", 0),), (("col", 0),), (("is", COL, NUM),), (("rows",), 0))


def empty_tables(widths):
    return [(wide, []) for wide in widths]


def full_tables(widths):
    return [(wide, [(1, ("gap", 0), 2, 3)[:wide]]) for wide in widths]


def nots(many, condition):
    for _ in range(many):
        condition = ("not", condition)
    return condition


def boths(many, sentence):
    """A both of a both .. of so many sentences."""
    whole = sentence
    for _ in range(many - 1):
        whole = ("both", whole, sentence)
    return whole


def is_writable(sentence):
    """Whether a text can tell it, though it is none."""
    try:
        words = text(sentence).split(" ")
    except (TypeError, ValueError, IndexError):
        return False
    return place_of_fault(words) is None and thing_of(words) == sentence


class Refusing(unittest.TestCase):
    def handing(self, sentence, widths):
        """The calls that a sentence can be handed in by."""
        calls = [lambda: made(sentence, widths), lambda: written(sentence, widths),
                 lambda: parted_by(sentence, R0, widths, 0, 0), lambda: parted_by(R0, sentence, widths, 0, 0)]
        for tables in (empty_tables(widths), full_tables(widths)):
            calls.extend(self.over(sentence, tables, 0, 0))
        return calls

    def over(self, sentence, tables, top, column):
        """The calls that a sentence can be handed in by with tables."""
        return [lambda: run(sentence, tables), lambda: surely(sentence, tables, top),
                lambda: may(sentence, tables, top), lambda: shown(sentence, tables, top, (1,), 1),
                lambda: totals(sentence, tables, top, column, 0), lambda: spans(sentence, tables, top, 0, column)]

    def handing_worse(self, sentence, widths):
        """Such calls with what is refused behind sentences, too."""
        calls = [lambda: parted_by(sentence, None, widths, 4, 3), lambda: parted_by(R0, sentence, widths, 0, -1)]
        return calls + self.over(sentence, full_tables(widths), 10, 99)

    def refused(self, at, why, sentence, widths=None):
        with self.subTest(sentence=sentence):
            widths = widths or WIDTHS
            for call in self.handing(sentence, widths) + self.handing_worse(sentence, widths):
                self.called(at, why, call)
            if is_writable(sentence):
                self.called(at, why, lambda: read(text(sentence), widths))

    def called(self, at, why, call):
        with self.assertRaises(BadSentence) as caught:
            call()
        self.assertEqual((caught.exception.at, caught.exception.why), (at, why))

    def let_by(self, sentence, widths=None):
        with self.subTest(sentence=sentence):
            for call in self.handing(sentence, widths or WIDTHS):
                call()
            self.assertEqual(read(written(sentence, widths or WIDTHS), widths or WIDTHS), sentence)

    def condition_refused(self, at, why, condition, wide=4):
        """By three, and within sentences: numbered on behind the sentence that is kept."""
        row = (1, ("gap", 0), 2, 3)[:wide]
        with self.subTest(condition=condition):
            self.called(at, why, lambda: three(condition, row))
            self.called(at, why, lambda: parted(condition, SO, wide, 0))
            self.called(at, why, lambda: parted(condition, None, wide, 4))
            self.called(at, why, lambda: parted(SO, condition, wide, 0))
            self.called(at, why, lambda: parted(SO, condition, wide, -1))
            self.refused(at + 2, why, ("keep", R0, condition), [wide])
            self.refused(at + 4, why, ("both", R0, ("keep", R0, condition)), [wide])

    def condition_let_by(self, condition, wide=4):
        three(condition, (1, ("gap", 0), 2, 3)[:wide])
        self.assertIsNone(parted(condition, condition, wide, 0))
        self.let_by(("keep", R0, condition), [wide])


class Shapes(Refusing):
    def test_what_is_no_sentence(self):
        for thing in KINDS + (SO, COL, NUM, ("lacks", COL), ("row", 0), ("ROWS", 0), ("cell", 0), ("eq", 0, 0),
                              ("pair", R0, R0), ("missing", R0, R0, SO), (0, 0), (0, "rows"), (None, R0)):
            self.refused(0, "shape", thing)
            self.refused(1, "shape", ("keep", thing, SO))
            self.refused(1, "shape", ("pick", thing, (0,)))
            self.refused(1, "shape", ("join", thing, R0, ()))
            self.refused(2, "shape", ("join", R0, thing, ()))
            self.refused(1, "shape", ("both", thing, R0))
            self.refused(2, "shape", ("both", R0, thing))
            self.refused(1, "shape", ("without", thing, R0))
            self.refused(2, "shape", ("without", R0, thing))

    def test_another_count_behind_a_word_of_a_sentence(self):
        for thing in (("rows",), ("rows", 0, 0), ("keep",), ("keep", R0), ("keep", R0, SO, SO), ("keep", SO),
                      ("pick",), ("pick", R0), ("pick", R0, 0, 1), ("pick", R0, (0,), (1,)), ("join", R0),
                      ("join", R0, R0), ("join", R0, R0, (), ()), ("both",), ("both", R0), ("both", R0, R0, R0),
                      ("without",), ("without", R0), ("without", R0, R0, R0), ("without", R0, R0, ())):
            self.refused(0, "shape", thing)
            self.refused(1, "shape", ("both", thing, R0))
            self.refused(2, "shape", ("both", R0, thing))

    def test_what_is_no_condition(self):
        for thing in KINDS + (R0, COL, NUM, ("pick", R0, (0,)), ("IS", COL, NUM), ("equal", COL, NUM), ("eq", COL, NUM),
                              ("plus", COL, NUM), ("gap", 0), ("no", SO), ("all", ()), ("any", (SO,))):
            self.condition_refused(0, "shape", thing)
            self.condition_refused(1, "shape", ("not", thing))
            self.condition_refused(1, "shape", ("true", thing))
            self.condition_refused(1, "shape", ("and", thing, SO))
            self.condition_refused(4, "shape", ("and", SO, thing))
            self.condition_refused(1, "shape", ("or", thing, SO))
            self.condition_refused(4, "shape", ("or", SO, thing))

    def test_another_count_behind_a_word_of_a_condition(self):
        for thing in (("is",), ("is", COL), ("is", COL, COL, COL), ("less",), ("less", COL), ("less", COL, COL, COL),
                      ("lacks",), ("lacks", COL, COL), ("not",), ("not", SO, SO), ("true",), ("true", SO, SO),
                      ("and",), ("and", SO), ("and", SO, SO, SO), ("or",), ("or", SO), ("or", SO, SO, SO)):
            self.condition_refused(0, "shape", thing)
            self.condition_refused(1, "shape", ("not", thing))

    def test_what_is_no_part(self):
        for thing in KINDS + (R0, SO, ("num",), ("num", 1, 1), ("col",), ("col", 0, 0), ("plus",), ("plus", COL),
                              ("plus", COL, COL, COL), ("take", COL), ("take", COL, COL, COL), ("gap", 1),
                              ("cell", 0), ("Col", 0), ("times", COL, COL), 99, ("lacks", COL)):
            self.condition_refused(1, "shape", ("is", thing, COL))
            self.condition_refused(2, "shape", ("is", COL, thing))
            self.condition_refused(1, "shape", ("less", thing, COL))
            self.condition_refused(2, "shape", ("less", COL, thing))
            self.condition_refused(1, "shape", ("lacks", thing))
            self.condition_refused(2, "shape", ("lacks", ("plus", thing, COL)))
            self.condition_refused(3, "shape", ("lacks", ("plus", COL, thing)))
            self.condition_refused(2, "shape", ("lacks", ("take", thing, COL)))
            self.condition_refused(3, "shape", ("lacks", ("take", COL, thing)))

    def test_what_is_no_number(self):
        for thing in (None, True, False, "", "0", (), (0,), COL):
            self.refused(0, "shape", ("rows", thing))
            self.condition_refused(1, "shape", ("lacks", ("col", thing)))
            self.condition_refused(1, "shape", ("lacks", ("num", thing)))

    def test_what_are_no_columns_of_a_pick(self):
        for columns in (None, True, 0, "", "0", (None,), (True,), (False,), (0, True), (0, "1"), ("0",), ((),), ((0,),),
                        ((0, 1),), (0, None), (0, 9, None), (None,) * 9):
            self.refused(0, "shape", ("pick", R0, columns))
            self.refused(2, "shape", ("both", R0, ("pick", R0, columns)))

    def test_what_are_no_pairs_of_a_join(self):
        for pairs in (None, True, 0, "", "00", (0,), (0, 0), (None,), ((),), ((0,),), ((0, 0, 0),), ((0, 0), 0),
                      ((0, 0), (0,)), ((0, True),), ((False, 0),), ((0, None),), (("0", 0),), (("0", "0"),), ("00",),
                      (((0, 0),),), ((0, (0,)),)):
            self.refused(0, "shape", ("join", R0, R0, pairs))
            self.refused(2, "shape", ("both", R0, ("join", R0, R0, pairs)))

    def test_a_shape_is_refused_ahead_of_what_is_within(self):
        self.refused(0, "shape", ("pick", ("rows", 9), 0))
        self.refused(0, "shape", ("pick", None, (None,)))
        self.refused(0, "shape", ("join", None, ("rows", 9), ((0,),)))
        self.refused(0, "shape", ("join", ("rows", 9), None, 1))
        self.refused(0, "shape", ("both", ("rows", 9)))
        self.refused(0, "shape", ("keep", ("rows", 9), SO, SO))
        self.condition_refused(0, "shape", ("is", ("col", 9)))
        self.condition_refused(0, "shape", ("and", ("is",), SO, SO))
        self.condition_refused(1, "shape", ("lacks", ("plus", ("col", 9))))


class Numbers(Refusing):
    def test_tables(self):
        for widths in ([1], [2, 4], [2, 4, 3]):
            for table in range(len(widths)):
                self.let_by(("rows", table), widths)
            for table in (len(widths), len(widths) + 1, -1, -len(widths), 99, 1000):
                self.refused(0, "table", ("rows", table), widths)
                self.refused(2, "table", ("both", R0, ("rows", table)), widths)
                self.refused(1, "table", ("pick", ("rows", table), ()), widths)

    def test_columns_of_parts(self):
        for wide in (1, 2, 3, 4):
            for column in range(wide):
                self.condition_let_by(("lacks", ("col", column)), wide)
            for column in (wide, wide + 1, -1, -wide, 99, 1000):
                self.condition_refused(1, "column", ("lacks", ("col", column)), wide)
                self.condition_refused(2, "column", ("is", COL, ("col", column)), wide)
                self.condition_refused(4, "column", ("less", ("plus", NUM, NUM), ("col", column)), wide)

    def test_columns_over_what_is_kept(self):
        picked = ("pick", R0, (1, 0, 0, 0, 1))
        joined = ("join", R0, R1, ((0, 0),))
        for sentence, wide in ((picked, 5), (joined, 6), (("join", R1, R1, ()), 8), (("pick", R1, (3,)), 1),
                               (("both", R0, R0), 2), (("without", R2, R2), 3), (("keep", R1, SO), 4)):
            at = 2 + things(sentence)
            self.let_by(("keep", sentence, ("lacks", ("col", wide - 1))))
            self.refused(at, "column", ("keep", sentence, ("lacks", ("col", wide))))
            self.refused(at, "column", ("keep", sentence, ("lacks", ("col", -1))))

    def test_columns_over_rows_of_eight_cells(self):
        row = (1, 2, 3, 4, 5, 6, 7, ("gap", 9))
        self.assertIs(three(("lacks", ("col", 7)), row), True)
        for column in (8, 9, -1, -8):
            self.called(1, "column", lambda: three(("lacks", ("col", column)), row))
        self.called(1, "column", lambda: three(("lacks", ("col", 7)), row[1:]))

    def test_numbers_of_parts(self):
        for number in range(100):
            self.condition_let_by(("lacks", ("num", number)))
        for number in (-1, 100, 101, -99, 1000, 10 ** 30):
            self.condition_refused(1, "number", ("lacks", ("num", number)))
            self.condition_refused(2, "number", ("is", COL, ("num", number)))
            self.condition_refused(3, "number", ("lacks", ("take", COL, ("num", number))))


class Behind(Refusing):
    """What is refused behind what is within."""

    def test_how_wide_a_pick_is(self):
        for many in range(1, 9):
            self.let_by(("pick", R0, (1,) * many))
        for columns in ((), (0,) * 9, (1,) * 10, (9,) * 9, (-1,) * 12):
            self.refused(0, "wide", ("pick", R0, columns))
            self.refused(3, "wide", ("join", R0, ("pick", ("pick", R0, columns), columns), ()))

    def test_columns_of_a_pick(self):
        for wide, sentence in ((2, R0), (4, R1), (3, R2), (6, ("join", R0, R1, ()))):
            self.let_by(("pick", sentence, (0, wide - 1)))
            for columns in ((wide,), (0, wide), (-1,), (0, 0, -1), (-wide,), (99, 0), (0,) * 7 + (wide,)):
                self.refused(0, "column", ("pick", sentence, columns))
                self.refused(1, "column", ("keep", ("pick", sentence, columns), SO))

    def test_a_pick_behind_what_is_within(self):
        self.refused(1, "table", ("pick", ("rows", 3), ()))
        self.refused(1, "shape", ("pick", None, (9,)))
        self.refused(1, "wide", ("pick", ("pick", R0, ()), ()))
        self.refused(1, "column", ("pick", ("pick", R0, (2,)), ()))
        self.refused(4, "column", ("pick", ("keep", R0, ("lacks", ("col", 2))), ()))

    def test_how_wide_a_join_is(self):
        three_wide = ("pick", R0, (0, 0, 0))
        seven_wide = ("pick", R0, (0,) * 7)
        one_wide = ("pick", R0, (0,))
        for one, other in ((R1, R1), (three_wide, R1), (seven_wide, one_wide), (one_wide, seven_wide)):
            self.let_by(("join", one, other, ()))
        for one, other in ((seven_wide, R0), (R0, seven_wide), (("join", R1, R1, ()), one_wide),
                           (("pick", R0, (0,) * 8), one_wide), (one_wide, ("pick", R0, (0,) * 8)),
                           (("join", R0, R2, ()), R1), (seven_wide, seven_wide)):
            self.refused(0, "wide", ("join", one, other, ()))
            self.refused(0, "wide", ("join", one, other, ((0, 0),)))
            self.refused(0, "wide", ("join", one, other, ((9, 9),)))
            self.refused(2, "wide", ("both", R0, ("join", one, other, ())))

    def test_columns_of_a_join(self):
        for pairs in ((), ((1, 3),), ((0, 0), (1, 3), (0, 3)), ((0, 0), (0, 0)), ((1, 2),) * 20):
            self.let_by(("join", R0, R1, pairs))
        for pairs in (((2, 0),), ((0, 4),), ((3, 1),), ((-1, 0),), ((0, -1),), ((0, 0), (2, 0)), ((0, 0), (1, 3), (1, 4)),
                      ((2, 4),), ((0, 99),), ((1, 3), (-2, 0))):
            self.refused(0, "column", ("join", R0, R1, pairs))
            self.refused(1, "column", ("pick", ("join", R0, R1, pairs), ()))
        # The other's columns are its own ones, not those of both side by side.
        self.refused(0, "column", ("join", R1, R0, ((0, 2),)))
        self.refused(0, "column", ("join", R0, R0, ((0, 2),)))

    def test_a_join_behind_what_is_within(self):
        eight = ("join", R1, R1, ())
        self.refused(1, "table", ("join", ("rows", 3), ("rows", 3), ((9, 9),)))
        self.refused(2, "table", ("join", R0, ("rows", 3), ((9, 9),)))
        self.refused(4, "shape", ("join", eight, None, ()))
        self.refused(1, "wide", ("join", ("join", eight, R0, ()), R0, ()))
        self.refused(2, "wide", ("join", R0, ("join", eight, R0, ()), ((9, 9),)))
        self.refused(4, "table", ("join", eight, ("rows", 4), ()))

    def test_both_and_without_as_wide(self):
        for word in ("both", "without"):
            for one, other in ((R0, R0), (R1, R1), (R0, ("pick", R1, (3, 3))), (("join", R0, R0, ()), R1),
                               (("join", R1, R1, ()), ("join", R1, R1, ()))):
                self.let_by((word, one, other))
            for one, other in ((R0, R1), (R1, R0), (R1, R2), (R0, ("pick", R0, (0,))), (("join", R0, R0, ()), R0)):
                self.refused(0, "wide", (word, one, other))
                self.refused(1, "wide", ("keep", (word, one, other), None))
                self.refused(2, "wide", (word, R0, (word, one, other)))

    def test_both_and_without_behind_what_is_within(self):
        for word in ("both", "without"):
            self.refused(1, "table", (word, ("rows", 3), R0))
            self.refused(2, "shape", (word, R0, R0[:1]))
            self.refused(2, "wide", (word, R1, ("pick", R0, ())))
            self.refused(1, "wide", (word, (word, R0, R1), (word, R0, R1)))

    def test_a_sentence_is_looked_at_ahead_of_its_condition(self):
        self.refused(1, "table", ("keep", ("rows", 3), None))
        self.refused(1, "wide", ("keep", ("both", R0, R1), None))
        self.refused(2, "shape", ("keep", R0, None))
        self.refused(4, "shape", ("keep", ("both", R0, R0), None))


class Firsts(Refusing):
    """The first of several things that can't be."""

    def test_of_conditions(self):
        self.condition_refused(1, "column", ("is", ("col", 4), ("num", 100)))
        self.condition_refused(1, "number", ("is", ("num", 100), ("col", 4)))
        self.condition_refused(2, "column", ("and", ("lacks", ("col", 4)), None))
        self.condition_refused(3, "shape", ("or", ("lacks", COL), ("lack", ("col", 4))))
        self.condition_refused(4, "number", ("or", ("lacks", COL), ("lacks", ("num", 100))))
        self.condition_refused(3, "column", ("less", ("plus", NUM, ("col", 4)), ("num", -1)))
        self.condition_refused(4, "number", ("less", ("plus", NUM, NUM), ("num", -1)))
        self.condition_refused(6, "number", ("less", ("plus", NUM, ("take", COL, COL)), ("num", 100)))

    def test_the_last_place(self):
        self.condition_refused(7, "number", ("and", ("not", ("is", COL, NUM)), ("less", COL, ("num", 100))))
        self.condition_refused(4, "column", ("is", ("plus", COL, NUM), ("col", 4)))
        sums = ("is", ("plus", COL, NUM), ("take", COL, ("col", 2)))
        self.refused(8, "column", ("keep", R0, sums))
        self.refused(9, "column", ("pick", ("keep", R0, sums), ()))
        self.refused(4, "table", ("both", R0, ("both", R0, ("rows", 3))))
        self.refused(6, "shape", ("join", ("keep", R0, SO), None, ()))

    def test_of_sentences(self):
        self.refused(1, "table", ("both", ("rows", 3), ("rows", 4)))
        self.refused(2, "column", ("both", R0, ("pick", ("pick", R0, (0,)), (1,))))
        self.refused(5, "column", ("both", ("keep", R0, ("lacks", NUM)), ("pick", R0, (2,))))
        self.refused(3, "table", ("join", ("pick", R0, (1,)), ("rows", -1), ((5, 5),)))


class Many(Refusing):
    """A sentence's things are at most 60: numbered 0 to 59."""

    def test_sixty_things_are_let_by(self):
        # Thirty tables, and a both between each two: 59 things; one pick over them.
        sentence = ("pick", boths(30, R0), (0,))
        self.assertEqual(things(sentence), 60)
        self.let_by(sentence)
        self.refused(60, "many", ("pick", sentence, (0,)))
        self.refused(60, "many", ("pick", ("pick", sentence, (0,)), (0,)))

    def test_sixty_things_of_a_condition(self):
        condition = nots(57, SO)
        self.assertEqual(things(condition), 60)
        three(condition, (1,))
        self.let_by(("keep", R0, nots(55, SO)))
        for many in (58, 59, 60, 61, 80):
            self.called(60, "many", lambda: three(nots(many, SO), (1,)))
        for many in (56, 57, 58, 59, 60, 80):
            self.refused(60, "many", ("keep", R0, nots(many, SO)))

    def test_ahead_of_all_else_of_the_thing(self):
        for thing in KINDS + (R1, COL, ("rows", 9)):
            self.refused(60, "many", ("both", boths(30, R0), thing))
            self.called(60, "many", lambda: three(nots(60, thing), (1,)))
        self.refused(59, "table", ("pick", ("both", boths(29, R0), ("rows", 9)), (0,)))
        self.called(60, "many", lambda: three(nots(58, ("is", COL, ("num", 100))), (1,)))
        self.called(59, "number", lambda: three(nots(57, ("is", COL, ("num", 100))), (1,)))
        self.called(59, "shape", lambda: three(nots(59, None), (1,)))
        self.called(58, "column", lambda: three(nots(57, ("is", ("col", 1), None)), (1,)))

    def test_behind_what_is_met_ahead_of_it(self):
        many = boths(40, R0)
        self.refused(1, "table", ("both", ("rows", 3), many))
        self.refused(1, "wide", ("both", ("pick", R0, ()), many))
        self.refused(1, "column", ("join", ("pick", R0, (2,)), many, ()))
        self.refused(0, "shape", ("both", many, R0, R0))
        self.refused(0, "shape", ("pick", many, None))

    def test_ahead_of_what_is_behind_all_within(self):
        many = boths(40, R0)
        self.refused(60, "many", ("pick", many, ()))
        self.refused(60, "many", ("pick", many, (9,)))
        self.refused(60, "many", ("both", R1, many))
        self.refused(60, "many", ("join", many, None, ((9, 9),)))
        self.refused(60, "many", ("keep", many, None))

    def test_columns_and_pairs_are_no_things(self):
        whole = boths(28, ("rows", 0))
        self.assertEqual(things(whole), 55)
        picked = ("pick", whole, (0, 1, 0, 1, 0, 1, 0, 1))
        self.let_by(("pick", ("pick", ("pick", ("pick", picked, (0,) * 8), (0,) * 8), (0,) * 8), (0,) * 8))
        self.let_by(("join", R0, R0, ((0, 0),) * 70))


if __name__ == "__main__":
    unittest.main()
