"""Plain sentences: over rows of numbers alone, by two truths."""


def amount(part, row):
    """What a plain part comes to over a row."""
    word = part[0]
    if word == "cell":
        return row[part[1]]
    if word == "num":
        return part[1]
    one = amount(part[1], row)
    other = amount(part[2], row)
    if word == "plus":
        return one + other
    return one - other


def holds_for_parts(condition, row):
    """Whether a plain condition whose things are parts is so over a row."""
    one = amount(condition[1], row)
    other = amount(condition[2], row)
    if condition[0] == "eq":
        return one == other
    return one < other


def holds(condition, row):
    """Whether a plain condition is so over a row."""
    word = condition[0]
    if word in ("eq", "lt"):
        return holds_for_parts(condition, row)
    if word == "no":
        return not holds(condition[1], row)
    # One that is so settles any, one that isn't settles all.
    settling = word == "any"
    for inner in condition[1]:
        if holds(inner, row) == settling:
            return settling
    return not settling


def is_missing(row, others, condition):
    """Whether a condition is so of a row with none of the others, side by side."""
    for other in others:
        if holds(condition, row + other):
            return False
    return True


def plain_rows(sentence, flats):
    """The rows that a plain sentence tells over lists of plain rows."""
    word = sentence[0]
    if word == "rows":
        return [tuple(row) for row in flats[sentence[1]]]
    one = plain_rows(sentence[1], flats)
    if word == "keep":
        return [row for row in one if holds(sentence[2], row)]
    if word == "pick":
        return [tuple([row[place] for place in sentence[2]]) for row in one]
    other = plain_rows(sentence[2], flats)
    if word == "both":
        return one + other
    if word == "pair":
        return [left + right for left in one for right in other]
    return [row for row in one if is_missing(row, other, sentence[3])]
