"""Looking sentences, conditions and parts over: what of them is refused.

Things are looked at as they stand, each one ahead of those within it, and are numbered so.
"""

from gaprows.cells import HIGHEST_NUMBER, MOST_CELLS, check_tables, is_number, is_within, widths_of
from gaprows.errors import BadSentence

MOST_THINGS = 60

# A word, and how many things go behind it.
SENTENCES = (("rows", 1), ("keep", 2), ("pick", 2), ("join", 3), ("both", 2), ("without", 2))
CONDITIONS = (("is", 2), ("less", 2), ("lacks", 1), ("not", 1), ("true", 1), ("and", 2), ("or", 2))
PARTS = (("col", 1), ("num", 1), ("plus", 2), ("take", 2))


class Tally:
    """Numbers things as they are met."""

    def __init__(self):
        self.met = 0

    def another(self):
        """The number of one more thing; refused if it is one too many."""
        at = self.met
        if at >= MOST_THINGS:
            raise BadSentence(at, "many")
        self.met = at + 1
        return at


def has_shape(thing, shapes):
    """Whether a thing is a tuple of one of the words and as many things as go behind it."""
    return isinstance(thing, tuple) and len(thing) > 0 and (thing[0], len(thing) - 1) in shapes


def are_numbers(value):
    """Whether a value is a tuple of numbers."""
    return isinstance(value, tuple) and all(is_number(number) for number in value)


def is_pair(value):
    """Whether a value is a pair of numbers."""
    return are_numbers(value) and len(value) == 2


def are_pairs(value):
    """Whether a value is a tuple of pairs of numbers."""
    return isinstance(value, tuple) and all(is_pair(pair) for pair in value)


def is_told_rightly(sentence):
    """Whether what a sentence tells besides sentences and conditions is of its kind."""
    word = sentence[0]
    if word == "rows":
        return is_number(sentence[1])
    if word == "pick":
        return are_numbers(sentence[2])
    if word == "join":
        return are_pairs(sentence[3])
    return True


def look_at_part(part, wide, tally):
    """Refuse what is no part over rows of so many columns."""
    at = tally.another()
    if not has_shape(part, PARTS):
        raise BadSentence(at, "shape")
    word = part[0]
    if word in ("plus", "take"):
        look_at_part(part[1], wide, tally)
        look_at_part(part[2], wide, tally)
        return
    if not is_number(part[1]):
        raise BadSentence(at, "shape")
    if word == "col" and not 0 <= part[1] < wide:
        raise BadSentence(at, "column")
    if word == "num" and not is_within(part[1], 0, HIGHEST_NUMBER):
        raise BadSentence(at, "number")


def look_at_condition(condition, wide, tally):
    """Refuse what is no condition over rows of so many columns."""
    at = tally.another()
    if not has_shape(condition, CONDITIONS):
        raise BadSentence(at, "shape")
    over_parts = condition[0] in ("is", "less", "lacks")
    for thing in condition[1:]:
        if over_parts:
            look_at_part(thing, wide, tally)
        else:
            look_at_condition(thing, wide, tally)


def table_width(table, widths, at):
    """How many columns a table has."""
    if not 0 <= table < len(widths):
        raise BadSentence(at, "table")
    return widths[table]


def pick_width(columns, wide, at):
    """How many columns a pick has, of rows of so many."""
    if not 1 <= len(columns) <= MOST_CELLS:
        raise BadSentence(at, "wide")
    for column in columns:
        if not 0 <= column < wide:
            raise BadSentence(at, "column")
    return len(columns)


def join_width(one, other, pairs, at):
    """How many columns a join has, of rows of so many and so many."""
    if one + other > MOST_CELLS:
        raise BadSentence(at, "wide")
    for left, right in pairs:
        if not 0 <= left < one or not 0 <= right < other:
            raise BadSentence(at, "column")
    return one + other


def look_at_sentence(sentence, widths, tally):
    """How many columns a sentence has; what is none, over tables of such widths, is refused."""
    at = tally.another()
    if not has_shape(sentence, SENTENCES) or not is_told_rightly(sentence):
        raise BadSentence(at, "shape")
    word = sentence[0]
    if word == "rows":
        return table_width(sentence[1], widths, at)
    one = look_at_sentence(sentence[1], widths, tally)
    if word == "keep":
        look_at_condition(sentence[2], one, tally)
        return one
    if word == "pick":
        return pick_width(sentence[2], one, at)
    other = look_at_sentence(sentence[2], widths, tally)
    if word == "join":
        return join_width(one, other, sentence[3], at)
    if one != other:
        raise BadSentence(at, "wide")
    return one


def check_sentence(sentence, widths):
    """How many columns a sentence has; what is none, over tables of such widths, is refused."""
    return look_at_sentence(sentence, widths, Tally())


def check_over_tables(sentence, tables):
    """How many columns a sentence has; tables that can't be are refused, then what is no sentence over them."""
    check_tables(tables)
    return check_sentence(sentence, widths_of(tables))


def check_condition(condition, wide):
    """Refuse what is no condition over rows of so many columns."""
    look_at_condition(condition, wide, Tally())
