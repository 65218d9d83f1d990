"""Point 18: sentences written as texts, and texts read."""

import unittest

from gaprows.errors import BadSentence, BadText
from gaprows.making import made
from gaprows.notes import read, written
from tests.oracle import FIGURES, place_of_fault, text, thing_of
from tests.samples import Sampler, things

WIDTHS = [2, 4, 3]
R0, R1, R2 = ("rows", 0), ("rows", 1), ("rows", 2)
C0, C1 = ("col", 0), ("col", 1)
SO = ("is", C0, ("num", 5))

# Texts and what they tell, over tables as wide as WIDTHS.
TEXTS = {
    "rows 0": R0,
    "rows 2": R2,
    "keep rows 0 less c1 plus c0 3": ("keep", R0, ("less", C1, ("plus", C0, ("num", 3)))),
    "keep rows 1 is c3 99": ("keep", R1, ("is", ("col", 3), ("num", 99))),
    "keep rows 0 lacks take c0 10": ("keep", R0, ("lacks", ("take", C0, ("num", 10)))),
    "keep rows 0 not lacks 0": ("keep", R0, ("not", ("lacks", ("num", 0)))),
    "keep rows 0 true is c0 5": ("keep", R0, ("true", SO)),
    "keep rows 0 and is c0 5 not is c0 5": ("keep", R0, ("and", SO, ("not", SO))),
    "keep rows 0 or and is c0 5 lacks c1 is c0 5": ("keep", R0, ("or", ("and", SO, ("lacks", C1)), SO)),
    "keep keep rows 0 lacks c1 is c0 5": ("keep", ("keep", R0, ("lacks", C1)), SO),
    "keep rows 0 is plus plus 1 c0 take c1 2 take 3 plus 4 c0":
        ("keep", R0, ("is", ("plus", ("plus", ("num", 1), C0), ("take", C1, ("num", 2))),
                      ("take", ("num", 3), ("plus", ("num", 4), C0)))),
    "pick rows 1 1 3": ("pick", R1, (3,)),
    "pick rows 0 8 0 1 1 0 0 1 0 1": ("pick", R0, (0, 1, 1, 0, 0, 1, 0, 1)),
    "pick pick rows 0 2 1 0 3 0 0 1": ("pick", ("pick", R0, (1, 0)), (0, 0, 1)),
    "join rows 0 rows 1 0": ("join", R0, R1, ()),
    "join rows 0 rows 1 1 1 3": ("join", R0, R1, ((1, 3),)),
    "join rows 0 rows 1 3 1 3 0 2 1 0": ("join", R0, R1, ((1, 3), (0, 2), (1, 0))),
    "join join rows 0 rows 0 1 0 1 rows 1 0": ("join", ("join", R0, R0, ((0, 1),)), R1, ()),
    "both rows 2 rows 2": ("both", R2, R2),
    "without rows 0 both rows 0 rows 0": ("without", R0, ("both", R0, R0)),
    "without pick rows 1 2 3 2 join pick rows 0 1 1 pick rows 2 1 2 1 0 0":
        ("without", ("pick", R1, (3, 2)), ("join", ("pick", R0, (1,)), ("pick", R2, (2,)), ((0, 0),))),
}
WORDS = ("rows", "keep", "pick", "join", "both", "without", "is", "less", "lacks", "not", "true", "and", "or", "plus",
         "take", "c0", "c1", "c9", "c99", "0", "1", "2", "7", "10", "99")
NO_WORDS = ("", "00", "01", "07", "010", "100", "999", "1000", "c", "c00", "c01", "c100", "c-1", "-1", "-0", "+1", "1.0",
            "C0", "cc0", "c0c", "0c", "Rows", "ROWS", "row", "rowss", "col", "num", "gap", "eq", "lt", "no", "all",
            "any", "pair", "missing", "sure", "None", "True", "~", "!", "1_0", "0x1", "1e1", "(", "'0'", "c+1", "c1.")


class Writing(unittest.TestCase):
    def test_each_word(self):
        for told, sentence in TEXTS.items():
            with self.subTest(told):
                self.assertEqual(written(sentence, WIDTHS), told)

    def test_all_numbers(self):
        for number in range(100):
            self.assertEqual(written(("keep", R0, ("lacks", ("num", number))), [1]), f"keep rows 0 lacks {number}")
        eight = ("join", R1, R1, ())
        for column in range(8):
            told = f"keep join rows 1 rows 1 0 lacks c{column}"
            self.assertEqual(written(("keep", eight, ("lacks", ("col", column))), WIDTHS), told)
            self.assertEqual(written(("pick", eight, (column,)), WIDTHS), f"pick join rows 1 rows 1 0 1 {column}")

    def test_many_pairs(self):
        for many in (9, 10, 70, 99):
            sentence = ("join", R0, R1, ((1, 2),) * many)
            told = f"join rows 0 rows 1 {many}" + " 1 2" * many
            self.assertEqual(written(sentence, WIDTHS), told)
            self.assertEqual(read(told, WIDTHS), sentence)

    def test_what_is_no_sentence(self):
        for at, why, sentence in ((0, "shape", None), (0, "table", ("rows", 3)), (1, "table", ("pick", ("rows", 3), ())),
                                  (0, "wide", ("pick", R0, ())), (0, "wide", ("both", R0, R1)),
                                  (3, "number", ("keep", R0, ("lacks", ("num", 100)))), (2, "shape", ("keep", R0, C0))):
            with self.assertRaises(BadSentence) as caught:
                written(sentence, WIDTHS)
            self.assertEqual((caught.exception.at, caught.exception.why), (at, why))


class Reading(unittest.TestCase):
    def check(self, told, widths=WIDTHS):
        """Whatever the text: the place of its fault, the sentence that it tells, or why there is no such."""
        words = told.split(" ")
        place = place_of_fault(words)
        if place is not None:
            self.bad_text(place, told, widths)
            return "text"
        sentence = thing_of(words)
        try:
            made(sentence, widths)
        except BadSentence as refusal:
            self.bad_sentence(refusal.at, refusal.why, told, widths)
            return "sentence"
        self.assertEqual(read(told, widths), sentence)
        return "read"

    def bad_text(self, place, told, widths=WIDTHS):
        with self.subTest(told):
            with self.assertRaises(BadText) as caught:
                read(told, widths)
            self.assertEqual(caught.exception.place, place)

    def bad_sentence(self, at, why, told, widths=WIDTHS):
        with self.subTest(told):
            with self.assertRaises(BadSentence) as caught:
                read(told, widths)
            self.assertEqual((caught.exception.at, caught.exception.why), (at, why))

    def test_each_word(self):
        for told, sentence in TEXTS.items():
            with self.subTest(told):
                self.assertEqual(read(told, WIDTHS), sentence)
                self.assertEqual(self.check(told), "read")

    def test_what_is_written_is_read_to_the_same(self):
        sampler = Sampler(67, high=99)
        for _ in range(1500):
            sentence, tables, _ = sampler.case(depth=4)
            widths = [wide for wide, _ in tables]
            told = written(sentence, widths)
            self.assertEqual(told, text(sentence))
            self.assertEqual(read(told, widths), sentence)
            self.assertEqual(place_of_fault(told.split(" ")), None)

    def test_words_left_out_told_twice_put_in_or_exchanged(self):
        met = {"text": 0, "sentence": 0, "read": 0}
        for told in TEXTS:
            words = told.split(" ")
            for place in range(len(words) + 1):
                changed = [words[:place], words[place:], words[:place] + words[place + 1:],
                           words[:place] + words[place:place + 1] + words[place:],
                           words[:place] + words[place:place + 2][::-1] + words[place + 2:]]
                for word in WORDS + NO_WORDS:
                    changed.append(words[:place] + [word] + words[place:])
                    changed.append(words[:place] + [word] + words[place + 1:])
                for one in changed:
                    met[self.check(" ".join(one))] += 1
        self.assertGreater(min(met.values()), 300)

    def test_the_first_place(self):
        for word in WORDS[6:] + NO_WORDS:
            self.bad_text(0, word)
            self.bad_text(0, word + " rows 0")
        for word in WORDS[:6]:
            self.bad_text(1, word)
            self.bad_text(1, word + " is")

    def test_more_must_come(self):
        for told in TEXTS:
            words = told.split(" ")
            for many in range(1, len(words)):
                self.check(" ".join(words[:many]))
        self.bad_text(1, "rows")
        self.bad_text(2, "keep rows")
        self.bad_text(3, "keep rows 0")
        self.bad_text(4, "keep rows 0 lacks")
        self.bad_text(5, "keep rows 0 is c0")
        self.bad_text(6, "keep rows 0 and lacks c0")
        self.bad_text(3, "pick rows 0")
        self.bad_text(4, "pick rows 0 1")
        self.bad_text(7, "pick rows 0 99 0 1 0")
        self.bad_text(5, "join rows 0 rows 0")
        self.bad_text(7, "join rows 0 rows 0 1 0")
        self.bad_text(8, "join rows 0 rows 0 2 0 0")
        self.bad_text(3, "both rows 0")

    def test_more_than_may_come(self):
        self.bad_text(2, "rows 0 0")
        self.bad_text(2, "rows 0 rows 0")
        self.bad_text(5, "pick rows 0 1 1 1")
        self.bad_text(6, "join rows 0 rows 0 0 0")
        self.bad_text(8, "join rows 0 rows 0 1 0 0 0")
        self.bad_text(6, "keep rows 0 is c0 5 c0")

    def test_blanks(self):
        self.bad_text(0, "")
        self.bad_text(0, " ")
        self.bad_text(0, "  ")
        self.bad_text(0, " rows 0")
        self.bad_text(1, "rows  0")
        self.bad_text(1, "rows ")
        self.bad_text(2, "rows 0 ")
        self.bad_text(2, "rows 0  ")
        self.bad_text(3, "both rows 0  rows 0")
        self.bad_text(4, "pick rows 0 1 ")
        for told in TEXTS:
            words = told.split(" ")
            for place in range(len(words) + 1):
                self.bad_text(place, " ".join(words[:place] + [""] + words[place:]))

    def test_numbers(self):
        for number in FIGURES:
            self.assertEqual(read(f"keep rows 0 lacks {number}", [1]), ("keep", R0, ("lacks", ("num", int(number)))))
        for number in ("00", "01", "09", "000", "100", "001", "123", "1000", "-1", "+1", "1a", "a", "", "1-", "c1"):
            self.bad_text(1, f"rows {number}")
            self.bad_text(3, f"pick rows 0 {number} 0")
            self.bad_text(4, f"pick rows 0 1 {number}")
            self.bad_text(5, f"pick rows 0 2 0 {number}")
            self.bad_text(5, f"join rows 0 rows 0 {number} 0 0")
            self.bad_text(6, f"join rows 0 rows 0 1 {number} 0")
            self.bad_text(7, f"join rows 0 rows 0 1 0 {number}")
            if number != "c1":
                self.bad_text(4, f"keep rows 0 lacks {number}")
                self.bad_text(4, f"keep rows 0 lacks c{number}")
                self.bad_text(5, f"keep rows 0 is c0 {number}")

    def test_words_of_one_kind_for_those_of_another(self):
        for word in WORDS[:13]:
            self.bad_text(4, f"keep rows 0 lacks {word}")
        for word in ("plus", "c0", "5", "rows", "keep"):
            self.bad_text(3, f"keep rows 0 {word} c0 c0")
        for word in ("is", "lacks", "and", "not"):
            self.bad_text(1, f"both {word} c0 c0 rows 0")
            self.bad_text(4, f"keep rows 0 less {word} c0 c0")

    def test_else_the_sentence(self):
        self.bad_sentence(0, "table", "rows 3")
        self.bad_sentence(0, "table", "rows 99")
        self.bad_sentence(0, "table", "rows 1", [4])
        self.bad_sentence(3, "column", "keep rows 0 lacks c2")
        self.bad_sentence(4, "column", "keep rows 0 is 5 c99")
        self.bad_sentence(0, "wide", "pick rows 0 0")
        self.bad_sentence(0, "wide", "pick rows 0 9 0 0 0 0 0 0 0 0 0")
        self.bad_sentence(0, "wide", "pick rows 0 99" + " 99" * 99)
        self.bad_sentence(0, "column", "pick rows 0 2 0 2")
        self.bad_sentence(0, "wide", "join rows 1 join rows 1 rows 1 0 0")
        self.bad_sentence(0, "column", "join rows 0 rows 1 1 0 4")
        self.bad_sentence(0, "column", "join rows 0 rows 1 2 0 0 2 0")
        self.bad_sentence(0, "wide", "both rows 0 rows 1")
        self.bad_sentence(2, "wide", "without rows 0 both rows 1 rows 2")
        self.bad_sentence(1, "table", "pick rows 7 0")

    def test_texts_are_refused_ahead_of_sentences(self):
        self.bad_text(4, "both rows 9 rows 9x")
        self.bad_text(4, "both rows 9 rows")
        self.bad_text(2, "rows 3 ")
        self.bad_text(4, "pick rows 9 0 0")
        self.bad_text(130, "not ".join(["keep rows 0 "] + [""] * 127) + "x")

    def test_sixty_things(self):
        told = "keep rows 0 " + "not " * 56 + "lacks c0"
        self.assertEqual(things(read(told, [1])), 60)
        self.assertEqual(written(read(told, [1]), [1]), told)
        self.bad_sentence(60, "many", "keep rows 0 " + "not " * 57 + "lacks c0")
        self.bad_sentence(1, "table", "keep rows 1 " + "not " * 57 + "lacks c0", [1])

    def test_texts_of_6000_signs(self):
        for word, ahead, end in (("not ", "keep rows 0 ", "lacks c0"), ("plus ", "keep rows 0 lacks ", "c0"),
                                 ("true ", "keep rows 0 ", "lacks c0"), ("pick ", "", "rows 0"),
                                 ("keep ", "", "rows 0"), ("both ", "", "rows 0"), ("join ", "", "rows 0"),
                                 ("and ", "keep rows 0 ", "lacks c0"), ("both rows 0 ", "", "rows 0"),
                                 ("or lacks c0 ", "keep rows 0 ", "lacks c0")):
            many = (6000 - len(ahead) - len(end)) // len(word)
            deep = ahead + word * many + end
            words = deep.split(" ")
            place = place_of_fault(words)
            with self.subTest(word):
                if place is None:
                    self.bad_sentence(60, "many", deep)
                else:
                    self.assertEqual(place, len(words))
                    self.bad_text(place, deep)
                self.bad_text(len(words) - 1, deep[:deep.rindex(" ") + 1] + "rows9")

    def test_many_texts_of_any_words(self):
        sampler = Sampler(71)
        for _ in range(3000):
            words = sampler.dice.choices(WORDS, k=sampler.dice.randint(1, 12))
            self.check(" ".join(words))

    def test_many_texts_that_go_on_rightly(self):
        sampler = Sampler(73)
        met = {"text": 0, "sentence": 0, "read": 0}
        for _ in range(1500):
            words = []
            while place_of_fault(words) == len(words) and len(words) < 40:
                word = sampler.dice.choice(WORDS)
                if place_of_fault(words + [word]) in (None, len(words) + 1):
                    words.append(word)
            met[self.check(" ".join(words))] += 1
        self.assertGreater(min(met.values()), 100)


if __name__ == "__main__":
    unittest.main()
