"""Points 3, 4 and 7: parts, conditions and their three truths over a row."""

import unittest

from gaprows.running import run, three
from tests.oracle import TRUTHS, grade
from tests.samples import Sampler, things

G0, G1 = ("gap", 0), ("gap", 1)
ROW = (3, 5, 3, G0, G1, G0, 0, 99)
LESSER, GREATER, ALIKE, GAP, OTHER_GAP, SAME_GAP, NOUGHT, GREATEST = [("col", at) for at in range(8)]
TRUE = ("is", ("num", 1), ("num", 1))
FALSE = ("is", ("num", 1), ("num", 2))
UNKNOWN = ("is", GAP, ("num", 1))
MADE = {True: TRUE, False: FALSE, None: UNKNOWN}


def num(number):
    return ("num", number)


def plus(one, other):
    return ("plus", one, other)


def take(one, other):
    return ("take", one, other)


def many_times(word, times, condition):
    for _ in range(times):
        condition = (word, condition)
    return condition


class Conditions(unittest.TestCase):
    def so(self, condition, truth, row=ROW):
        """By three, and by keeping rows."""
        with self.subTest(condition=condition):
            self.assertIs(three(condition, row), truth)
            tables = [(4, [row[:4]]), (4, [row[4:]])]
            whole = ("join", ("rows", 0), ("rows", 1), ())
            told = run(("keep", whole, condition), tables)
            mark = {True: [(row, "sure")], None: [(row, "maybe")], False: []}[truth]
            self.assertEqual(told, mark)

    def test_is_of_numbers(self):
        self.so(("is", LESSER, GREATER), False)
        self.so(("is", LESSER, ALIKE), True)
        self.so(("is", LESSER, LESSER), True)
        self.so(("is", LESSER, num(3)), True)
        self.so(("is", num(3), LESSER), True)
        self.so(("is", num(4), LESSER), False)
        self.so(("is", num(99), GREATEST), True)
        self.so(("is", num(0), NOUGHT), True)
        self.so(("is", num(7), num(7)), True)
        self.so(("is", num(7), num(8)), False)

    def test_is_of_gaps(self):
        self.so(("is", GAP, OTHER_GAP), None)
        self.so(("is", GAP, SAME_GAP), True)
        self.so(("is", SAME_GAP, GAP), True)
        self.so(("is", GAP, GAP), True)
        self.so(("is", GAP, LESSER), None)
        self.so(("is", LESSER, GAP), None)
        self.so(("is", GAP, num(1)), None)
        self.so(("is", num(0), GAP), None)
        self.so(("is", num(0), num(0)), True)

    def test_is_of_a_gap_and_its_name_as_a_number(self):
        self.so(("is", OTHER_GAP, num(1)), None)
        self.so(("is", GAP, NOUGHT), None)

    def test_is_of_what_no_gap_can_be(self):
        self.so(("is", GAP, take(num(0), num(5))), None)
        self.so(("is", GAP, plus(num(99), num(99))), None)

    def test_less_of_numbers(self):
        self.so(("less", LESSER, GREATER), True)
        self.so(("less", GREATER, LESSER), False)
        self.so(("less", LESSER, ALIKE), False)
        self.so(("less", LESSER, LESSER), False)
        self.so(("less", num(2), LESSER), True)
        self.so(("less", LESSER, num(4)), True)
        self.so(("less", num(0), NOUGHT), False)
        self.so(("less", num(98), GREATEST), True)

    def test_less_of_gaps(self):
        self.so(("less", GAP, OTHER_GAP), None)
        self.so(("less", OTHER_GAP, GAP), None)
        self.so(("less", GAP, SAME_GAP), False)
        self.so(("less", SAME_GAP, GAP), False)
        self.so(("less", GAP, GAP), False)
        self.so(("less", GAP, LESSER), None)
        self.so(("less", LESSER, GAP), None)

    def test_less_of_what_no_gap_can_be(self):
        self.so(("less", GAP, num(0)), None)
        self.so(("less", GAP, NOUGHT), None)
        self.so(("less", GREATEST, GAP), None)
        self.so(("less", take(num(0), num(1)), GAP), None)

    def test_only_columns_with_gaps_of_one_name_are_alike(self):
        for word in ("is", "less"):
            self.so((word, plus(GAP, num(0)), GAP), None)
            self.so((word, GAP, plus(GAP, num(0))), None)
            self.so((word, take(GAP, num(0)), take(GAP, num(0))), None)
            self.so((word, plus(GAP, num(1)), plus(SAME_GAP, num(1))), None)
            self.so((word, take(GAP, GAP), num(0)), None)
            self.so((word, plus(GAP, OTHER_GAP), plus(GAP, OTHER_GAP)), None)

    def test_plus_and_take(self):
        self.so(("is", plus(LESSER, GREATER), num(8)), True)
        self.so(("is", plus(num(4), num(5)), num(9)), True)
        self.so(("is", take(GREATER, LESSER), num(2)), True)
        self.so(("is", take(LESSER, GREATER), num(2)), False)
        self.so(("is", plus(plus(LESSER, GREATER), GREATEST), plus(num(8), num(99))), True)
        self.so(("is", take(take(num(9), num(4)), num(3)), num(2)), True)
        self.so(("is", take(num(9), take(num(4), num(3))), num(8)), True)

    def test_what_parts_come_to_has_no_bounds(self):
        self.so(("less", GREATEST, plus(GREATEST, num(1))), True)
        self.so(("is", plus(GREATEST, GREATEST), plus(num(99), num(99))), True)
        self.so(("is", plus(GREATEST, num(1)), num(0)), False)
        self.so(("less", take(LESSER, GREATER), num(0)), True)
        self.so(("less", num(0), take(LESSER, GREATER)), False)
        self.so(("is", take(NOUGHT, num(2)), take(LESSER, GREATER)), True)
        self.so(("is", take(NOUGHT, num(2)), num(98)), False)

    def test_lacks(self):
        self.so(("lacks", GAP), True)
        self.so(("lacks", OTHER_GAP), True)
        self.so(("lacks", LESSER), False)
        self.so(("lacks", NOUGHT), False)
        self.so(("lacks", num(0)), False)
        self.so(("lacks", plus(LESSER, num(1))), False)
        self.so(("lacks", take(LESSER, GREATER)), False)
        self.so(("lacks", plus(GAP, num(0))), True)
        self.so(("lacks", plus(num(0), GAP)), True)
        self.so(("lacks", take(GAP, num(0))), True)
        self.so(("lacks", take(num(0), GAP)), True)
        self.so(("lacks", take(GAP, GAP)), True)
        self.so(("lacks", plus(num(1), plus(LESSER, take(num(1), GAP)))), True)
        self.so(("lacks", plus(plus(take(OTHER_GAP, num(1)), num(1)), num(2))), True)

    def test_not(self):
        self.so(("not", TRUE), False)
        self.so(("not", FALSE), True)
        self.so(("not", UNKNOWN), None)
        self.so(("not", ("less", GAP, OTHER_GAP)), None)
        self.so(("not", ("less", GAP, SAME_GAP)), True)
        self.so(("not", ("is", GAP, SAME_GAP)), False)
        self.so(("not", ("lacks", GAP)), False)

    def test_true(self):
        self.so(("true", TRUE), True)
        self.so(("true", FALSE), False)
        self.so(("true", UNKNOWN), False)
        self.so(("true", ("not", UNKNOWN)), False)
        self.so(("not", ("true", UNKNOWN)), True)
        self.so(("true", ("not", ("true", ("not", UNKNOWN)))), True)

    def test_and(self):
        for one in (True, False, None):
            for other in (True, False, None):
                truth = None
                if one is False or other is False:
                    truth = False
                elif one is True and other is True:
                    truth = True
                self.so(("and", MADE[one], MADE[other]), truth)

    def test_or(self):
        for one in (True, False, None):
            for other in (True, False, None):
                truth = None
                if one is True or other is True:
                    truth = True
                elif one is False and other is False:
                    truth = False
                self.so(("or", MADE[one], MADE[other]), truth)

    def test_one_and_its_opposite_are_not_known(self):
        self.so(("or", UNKNOWN, ("not", UNKNOWN)), None)
        self.so(("and", UNKNOWN, ("not", UNKNOWN)), None)

    def test_deep_ones(self):
        # The keep and its join leave 56 things to the condition.
        for word, truths in (("not", {True: False, False: True, None: None}),
                             ("true", {True: True, False: False, None: False})):
            for inner, truth in truths.items():
                condition = many_times(word, 53, MADE[inner])
                self.so(condition, truth)
        self.so(many_times("not", 52, TRUE), True)
        self.so(many_times("not", 52, UNKNOWN), None)
        self.assertIs(three(many_times("not", 57, FALSE), (G0, 1)), True)
        self.assertIs(three(many_times("not", 57, ("is", ("col", 0), ("num", 1))), (G0,)), None)

    def test_deep_chains(self):
        chain = {"and": UNKNOWN, "or": UNKNOWN}
        for _ in range(13):
            chain = {"and": ("and", TRUE, chain["and"]), "or": ("or", chain["or"], FALSE)}
        for condition in chain.values():
            self.assertEqual(things(condition), 55)
            self.so(condition, None)
        self.so(("true", chain["and"]), False)
        self.so(("or", TRUE, ("and", FALSE, ("or", TRUE, ("and", UNKNOWN, FALSE)))), True)
        self.so(("and", ("or", UNKNOWN, ("and", UNKNOWN, FALSE)), ("not", FALSE)), None)
        self.so(("and", ("or", UNKNOWN, TRUE), ("or", FALSE, ("and", TRUE, TRUE))), True)

    def test_deep_parts(self):
        left = right = num(2)
        for _ in range(26):
            left, right = plus(left, num(2)), take(num(2), right)
        self.so(("is", left, num(54)), True)
        self.so(("is", right, num(2)), True)
        self.so(("lacks", left), False)

    def test_rows_of_one_cell_and_of_eight(self):
        self.assertIs(three(("is", ("col", 0), ("num", 9)), (9,)), True)
        self.assertIs(three(("is", ("col", 0), ("num", 9)), (("gap", 9),)), None)
        self.assertIs(three(("is", ("col", 7), ("col", 0)), (("gap", 9), 1, 2, 3, 4, 5, 6, ("gap", 9))), True)

    def test_many_conditions_over_many_rows(self):
        sampler = Sampler(3)
        for _ in range(3000):
            wide = sampler.dice.randint(1, 8)
            row, condition = sampler.row(wide), sampler.condition(wide, 3)
            if things(condition) <= 60:
                self.assertIs(three(condition, row), TRUTHS[grade(condition, row)], (condition, row))


if __name__ == "__main__":
    unittest.main()
