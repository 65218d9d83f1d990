"""The document's points 3 to 5, 9, 11 and 18, told once more in another way, to compare with.

A truth is 2 for True, 1 for None, 0 for False: and is the least, or the greatest.
"""

import itertools

TRUTHS = (False, None, True)


def worth(part, row):
    """A number, a gap, or a text where it isn't known."""
    word, *inner = part
    if word == "col":
        return row[inner[0]]
    if word == "num":
        return inner[0]
    one, other = (worth(thing, row) for thing in inner)
    if not (isinstance(one, int) and isinstance(other, int)):
        return "not known"
    return {"plus": one + other, "take": one - other}[word]


def compare(word, one, other):
    if isinstance(one, int) and isinstance(other, int):
        return 2 * ({"is": one == other, "less": one < other}[word])
    if isinstance(one, tuple) and one == other:
        return {"is": 2, "less": 0}[word]
    return 1


def grade(condition, row):
    word, *inner = condition
    if word in ("is", "less"):
        return compare(word, worth(inner[0], row), worth(inner[1], row))
    if word == "lacks":
        return 0 if isinstance(worth(inner[0], row), int) else 2
    grades = [grade(thing, row) for thing in inner]
    return {"not": 2 - grades[0], "true": 2 * (grades[0] == 2),
            "and": min(grades), "or": max(grades)}[word]


def sides(ones, others, pairs):
    for one, first in ones:
        for other, second in others:
            alike = [compare("is", one[left], other[right]) for left, right in pairs]
            yield one + other, min([first, second] + alike)


def among(row, others):
    found = [0]
    for other, truth in others:
        found.append(min([truth] + [compare("is", a, b) for a, b in zip(row, other)]))
    return max(found)


def graded(sentence, tables):
    word, first, *rest = sentence
    if word == "rows":
        return [(row, 2) for row in tables[first][1]]
    one = graded(first, tables)
    if word == "keep":
        rows = [(row, min(truth, grade(rest[0], row))) for row, truth in one]
    elif word == "pick":
        rows = [(tuple(row[column] for column in rest[0]), truth) for row, truth in one]
    else:
        other = graded(rest[0], tables)
        if word == "join":
            rows = list(sides(one, other, rest[1]))
        elif word == "both":
            rows = one + other
        else:
            rows = [(row, min(truth, 2 - among(row, other))) for row, truth in one]
    return [(row, truth) for row, truth in rows if truth]


def expected(sentence, tables):
    """What run is to tell."""
    return [(row, ("", "maybe", "sure")[truth]) for row, truth in graded(sentence, tables)]


def plain_worth(part, row):
    word, *inner = part
    if word == "cell":
        assert 0 <= inner[0]
        return row[inner[0]]
    if word == "num":
        return inner[0]
    one, other = (plain_worth(thing, row) for thing in inner)
    return {"plus": one + other, "take": one - other}[word]


def plain_truth(condition, row):
    word, *inner = condition
    if word in ("eq", "lt"):
        one, other = (plain_worth(part, row) for part in inner)
        return {"eq": one == other, "lt": one < other}[word]
    if word == "no":
        (one,) = inner
        return not plain_truth(one, row)
    (conditions,) = inner
    assert isinstance(conditions, tuple)
    return {"all": all, "any": any}[word]([plain_truth(one, row) for one in conditions])


def plain_told(sentence, flats):
    """What plain_rows is to tell; words that point 9 does not tell fail."""
    word, first, *rest = sentence
    if word == "rows":
        return list(flats[first])
    one = plain_told(first, flats)
    if word == "keep":
        return [row for row in one if plain_truth(rest[0], row)]
    if word == "pick":
        return [tuple(row[place] for place in rest[0]) for row in one]
    other = plain_told(rest[0], flats)
    if word == "both":
        return one + other
    if word == "pair":
        return [left + right for left in one for right in other]
    assert word == "missing"
    return [left for left in one if not any([plain_truth(rest[1], left + right) for right in other])]


def names_in(tables):
    """The names of the gaps in tables, as they are met first."""
    cells = [cell for _, rows in tables for row in rows for cell in row]
    return list(dict.fromkeys(cell[1] for cell in cells if not isinstance(cell, int)))


def filled(row, filling):
    return tuple(cell if isinstance(cell, int) else filling[cell[1]] for cell in row)


def fillings(tables, top):
    """All fillings, in order, each a dict."""
    names = names_in(tables)
    return [dict(zip(names, numbers)) for numbers in itertools.product(range(top + 1), repeat=len(names))]


def worlds(sentence, tables, top):
    """All fillings, in order, each with the rows that the sentence tells by it."""
    told = []
    for filling in fillings(tables, top):
        world = [(wide, [filled(row, filling) for row in rows]) for wide, rows in tables]
        told.append((filling, [row for row, _ in graded(sentence, world)]))
    return told


def text(thing):
    """A sentence, condition or part as words, whatever numbers stand in it."""
    word, *inner = thing
    if word == "col":
        return "c" + str(inner[0])
    if word == "num":
        return str(inner[0])
    if word == "rows":
        return "rows " + str(inner[0])
    if word == "pick":
        numbers = [len(inner[1]), *inner[1]]
        return " ".join(["pick", text(inner[0])] + [str(number) for number in numbers])
    if word == "join":
        numbers = [len(inner[2]), *itertools.chain(*inner[2])]
        return " ".join(["join", text(inner[0]), text(inner[1])] + [str(number) for number in numbers])
    return " ".join([word] + [text(one) for one in inner])


FIGURES = [str(number) for number in range(100)]
FORMS = {"sentence": {"rows": ["number"], "keep": ["sentence", "condition"], "pick": ["sentence", "once each"],
                      "join": ["sentence", "sentence", "twice each"], "both": ["sentence"] * 2,
                      "without": ["sentence"] * 2},
         "condition": {"is": ["part"] * 2, "less": ["part"] * 2, "lacks": ["part"], "not": ["condition"],
                       "true": ["condition"], "and": ["condition"] * 2, "or": ["condition"] * 2},
         "part": {"plus": ["part"] * 2, "take": ["part"] * 2, **{word: [] for word in FIGURES},
                  **{"c" + word: [] for word in FIGURES}},
         "number": {word: [] for word in FIGURES},
         "once each": {word: ["number"] * int(word) for word in FIGURES},
         "twice each": {word: ["number"] * int(word) * 2 for word in FIGURES}}


def place_of_fault(words):
    """The place of the first word that can't stand there, or how many there are; None where all is well."""
    awaited = ["sentence"]
    for place, word in enumerate(words):
        if not awaited or word not in FORMS[awaited[0]]:
            return place
        awaited = FORMS[awaited[0]][word] + awaited[1:]
    return len(words) if awaited else None


def thing_of(words):
    """The thing that words without a fault begin with; its words are taken away."""
    word = words.pop(0)
    if word in FIGURES:
        return ("num", int(word))
    if word[1:] in FIGURES:
        return ("col", int(word[1:]))
    if word == "rows":
        return (word, int(words.pop(0)))
    many = {"lacks": 1, "not": 1, "true": 1, "pick": 1}.get(word, 2)
    thing = (word, *[thing_of(words) for _ in range(many)])
    if word not in ("pick", "join"):
        return thing
    count = int(words.pop(0))
    if word == "pick":
        return thing + (tuple(int(words.pop(0)) for _ in range(count)),)
    return thing + (tuple((int(words.pop(0)), int(words.pop(0))) for _ in range(count)),)
