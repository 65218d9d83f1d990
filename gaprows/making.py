"""Making plain rows of tables, and plain sentences of sentences.

Over plain rows a condition has two plain ones: one that is so where its truth is True (sure), one
that is so where it isn't False. A flag above 0 settles a truth by itself, so that worths beneath
gaps never do. Each sentence, condition and part is made once for each of the two plain sentences:
what is made grows only as what it is made of.
"""

from gaprows.cells import HIGHEST_NUMBER, check_tables, check_top
from gaprows.looking import check_sentence

PLAIN_WORDS = {"plus": "plus", "take": "take", "is": "eq", "less": "lt"}


def flag(column):
    """The plain part for the flag of a column's cell."""
    return ("cell", 2 * column)


def worth(column):
    """The plain part for the worth of a column's cell."""
    return ("cell", 2 * column + 1)


def plain_part(part):
    """The plain part that comes to the same as a part where no gap is in it."""
    word = part[0]
    if word == "col":
        return worth(part[1])
    if word == "num":
        return part
    return (PLAIN_WORDS[word], plain_part(part[1]), plain_part(part[2]))


def columns_of(part):
    """The columns that stand in a part."""
    word = part[0]
    if word == "col":
        return [part[1]]
    if word == "num":
        return []
    return columns_of(part[1]) + columns_of(part[2])


def lacking(columns):
    """The plain condition that one of the columns is a gap."""
    met = sorted(set(columns))
    return ("any", tuple([("lt", ("num", 0), flag(column)) for column in met]))


def lacking_unlike(one, other):
    """The plain condition that one of two parts isn't known, and they are no gaps of one name."""
    if one[0] == "col" and other[0] == "col":
        # Flags that are unlike can't both be 0.
        return ("no", ("eq", flag(one[1]), flag(other[1])))
    return lacking(columns_of(one) + columns_of(other))


def one_gap(one, other):
    """The plain conditions, if any, that two parts are gaps of one name."""
    if one[0] != "col" or other[0] != "col":
        return []
    return [("all", (lacking([one[1]]), ("eq", flag(one[1]), flag(other[1]))))]


def compared(condition, sure):
    """The plain condition for is and less."""
    word, one, other = condition
    by_worths = (PLAIN_WORDS[word], plain_part(one), plain_part(other))
    known = ("no", lacking(columns_of(one) + columns_of(other)))
    ways = [("all", (known, by_worths))]
    if word == "is":
        ways.extend(one_gap(one, other))
    if not sure:
        ways.append(lacking_unlike(one, other))
    return ("any", tuple(ways))


def plain_condition(condition, sure):
    """The plain condition that is so where a condition is True (sure), or isn't False."""
    word = condition[0]
    if word in ("is", "less"):
        return compared(condition, sure)
    if word == "lacks":
        return lacking(columns_of(condition[1]))
    if word == "not":
        return ("no", plain_condition(condition[1], not sure))
    if word == "true":
        return plain_condition(condition[1], True)
    both = (plain_condition(condition[1], sure), plain_condition(condition[2], sure))
    return ("all" if word == "and" else "any", both)


def pairs_same(pairs, offset, sure):
    """The plain condition that all pairs of columns are the same, the second ones so far behind."""
    alike = [("is", ("col", one), ("col", offset + other)) for one, other in pairs]
    return ("all", tuple([plain_condition(condition, sure) for condition in alike]))


def places_of(columns):
    """The places of the flags and worths of the columns."""
    places = []
    for column in columns:
        places.extend([2 * column, 2 * column + 1])
    return tuple(places)


def made_of_two(sentence, widths, sure):
    """The plain sentence for a join, both or without, and how many columns it has."""
    word = sentence[0]
    one, wide = plain_sentence(sentence[1], widths, sure)
    if word == "without":
        # What isn't sure is left out by all rows that aren't False there, and the other way round.
        other, _ = plain_sentence(sentence[2], widths, not sure)
        pairs = [(column, column) for column in range(wide)]
        return ("missing", one, other, pairs_same(pairs, wide, not sure)), wide
    other, other_wide = plain_sentence(sentence[2], widths, sure)
    if word == "both":
        return ("both", one, other), wide
    condition = pairs_same(sentence[3], wide, sure)
    return ("keep", ("pair", one, other), condition), wide + other_wide


def plain_sentence(sentence, widths, sure):
    """The plain sentence for the sure rows of a sentence, or for all, and how many columns it has."""
    word = sentence[0]
    if word == "rows":
        return sentence, widths[sentence[1]]
    if word == "keep":
        one, wide = plain_sentence(sentence[1], widths, sure)
        return ("keep", one, plain_condition(sentence[2], sure)), wide
    if word == "pick":
        one, _ = plain_sentence(sentence[1], widths, sure)
        return ("pick", one, places_of(sentence[2])), len(sentence[2])
    return made_of_two(sentence, widths, sure)


def made(sentence, widths):
    """Two plain sentences for a sentence, over tables of such widths: its sure rows, and all."""
    check_sentence(sentence, widths)
    sure, _ = plain_sentence(sentence, widths, True)
    every, _ = plain_sentence(sentence, widths, False)
    return sure, every


def plain_row(row, beneath):
    """A row as a plain one, the number lying beneath its gaps."""
    numbers = []
    for cell in row:
        if isinstance(cell, int):
            numbers.extend([0, cell])
        else:
            numbers.extend([cell[1] + 1, beneath])
    return tuple(numbers)


def flat(tables, beneath):
    """The tables as lists of plain rows, the number lying beneath all gaps."""
    check_tables(tables)
    check_top(beneath, HIGHEST_NUMBER)
    return [[plain_row(row, beneath) for row in rows] for _, rows in tables]


def back(row):
    """The cells of a plain row."""
    cells = []
    for place in range(0, len(row), 2):
        if row[place] == 0:
            cells.append(row[place + 1])
        else:
            cells.append(("gap", row[place] - 1))
    return tuple(cells)
