"""The document's points 3 to 5, and 9, told once more in another way, to compare with.

A truth is 2 for True, 1 for None, 0 for False: and is the least, or the greatest.
"""

TRUTHS = (False, None, True)


def worth(part, row):
    """A number, a gap, or a text where it isn't known."""
    word, *inner = part
    if word == "col":
        return row[inner[0]]
    if word == "num":
        return inner[0]
    one, other = (worth(thing, row) for thing in inner)
    if not (isinstance(one, int) and isinstance(other, int)):
        return "not known"
    return {"plus": one + other, "take": one - other}[word]


def compare(word, one, other):
    if isinstance(one, int) and isinstance(other, int):
        return 2 * ({"is": one == other, "less": one < other}[word])
    if isinstance(one, tuple) and one == other:
        return {"is": 2, "less": 0}[word]
    return 1


def grade(condition, row):
    word, *inner = condition
    if word in ("is", "less"):
        return compare(word, worth(inner[0], row), worth(inner[1], row))
    if word == "lacks":
        return 0 if isinstance(worth(inner[0], row), int) else 2
    grades = [grade(thing, row) for thing in inner]
    return {"not": 2 - grades[0], "true": 2 * (grades[0] == 2),
            "and": min(grades), "or": max(grades)}[word]


def sides(ones, others, pairs):
    for one, first in ones:
        for other, second in others:
            alike = [compare("is", one[left], other[right]) for left, right in pairs]
            yield one + other, min([first, second] + alike)


def among(row, others):
    found = [0]
    for other, truth in others:
        found.append(min([truth] + [compare("is", a, b) for a, b in zip(row, other)]))
    return max(found)


def graded(sentence, tables):
    word, first, *rest = sentence
    if word == "rows":
        return [(row, 2) for row in tables[first][1]]
    one = graded(first, tables)
    if word == "keep":
        rows = [(row, min(truth, grade(rest[0], row))) for row, truth in one]
    elif word == "pick":
        rows = [(tuple(row[column] for column in rest[0]), truth) for row, truth in one]
    else:
        other = graded(rest[0], tables)
        if word == "join":
            rows = list(sides(one, other, rest[1]))
        elif word == "both":
            rows = one + other
        else:
            rows = [(row, min(truth, 2 - among(row, other))) for row, truth in one]
    return [(row, truth) for row, truth in rows if truth]


def expected(sentence, tables):
    """What run is to tell."""
    return [(row, ("", "maybe", "sure")[truth]) for row, truth in graded(sentence, tables)]


def plain_worth(part, row):
    word, *inner = part
    if word == "cell":
        assert 0 <= inner[0]
        return row[inner[0]]
    if word == "num":
        return inner[0]
    one, other = (plain_worth(thing, row) for thing in inner)
    return {"plus": one + other, "take": one - other}[word]


def plain_truth(condition, row):
    word, *inner = condition
    if word in ("eq", "lt"):
        one, other = (plain_worth(part, row) for part in inner)
        return {"eq": one == other, "lt": one < other}[word]
    if word == "no":
        (one,) = inner
        return not plain_truth(one, row)
    (conditions,) = inner
    assert isinstance(conditions, tuple)
    return {"all": all, "any": any}[word]([plain_truth(one, row) for one in conditions])


def plain_told(sentence, flats):
    """What plain_rows is to tell; words that point 9 does not tell fail."""
    word, first, *rest = sentence
    if word == "rows":
        return list(flats[first])
    one = plain_told(first, flats)
    if word == "keep":
        return [row for row in one if plain_truth(rest[0], row)]
    if word == "pick":
        return [tuple(row[place] for place in rest[0]) for row in one]
    other = plain_told(rest[0], flats)
    if word == "both":
        return one + other
    if word == "pair":
        return [left + right for left in one for right in other]
    assert word == "missing"
    return [left for left in one if not any([plain_truth(rest[1], left + right) for right in other])]
