"""The three truths, True, False and None (not known), and which one a condition has over a row.

What a part comes to is a number, a gap, or None where it isn't known.
"""


def opposite(truth):
    """The truth of not."""
    if truth is None:
        return None
    return not truth


def of_both(one, other):
    """The truth of and."""
    if one is False or other is False:
        return False
    if one is None or other is None:
        return None
    return True


def of_either(one, other):
    """The truth of or."""
    if one is True or other is True:
        return True
    if one is None or other is None:
        return None
    return False


def are_known(one, other):
    """Whether what two parts come to are numbers."""
    return isinstance(one, int) and isinstance(other, int)


def are_one_gap(one, other):
    """Whether what two parts come to are gaps of one name."""
    return isinstance(one, tuple) and one == other


def same(one, other):
    """The truth of two parts being the same, by what they come to."""
    if are_known(one, other):
        return one == other
    if are_one_gap(one, other):
        return True
    return None


def less(one, other):
    """The truth of the first of two parts being less, by what they come to."""
    if are_known(one, other):
        return one < other
    if are_one_gap(one, other):
        return False
    return None


def same_cells(one, other):
    """The truth of all cells of two rows being the same."""
    truth = True
    for left, right in zip(one, other):
        truth = of_both(truth, same(left, right))
    return truth


def comes_to(part, row):
    """What a part comes to over a row."""
    word = part[0]
    if word == "col":
        return row[part[1]]
    if word == "num":
        return part[1]
    one = comes_to(part[1], row)
    other = comes_to(part[2], row)
    if not are_known(one, other):
        return None
    if word == "plus":
        return one + other
    return one - other


def truth_of_parts(condition, row):
    """The truth over a row of a condition whose things are parts."""
    word = condition[0]
    one = comes_to(condition[1], row)
    if word == "lacks":
        return not isinstance(one, int)
    other = comes_to(condition[2], row)
    if word == "is":
        return same(one, other)
    return less(one, other)


def truth_of(condition, row):
    """The truth of a condition over a row."""
    word = condition[0]
    if word in ("is", "less", "lacks"):
        return truth_of_parts(condition, row)
    one = truth_of(condition[1], row)
    if word == "not":
        return opposite(one)
    if word == "true":
        return one is True
    other = truth_of(condition[2], row)
    if word == "and":
        return of_both(one, other)
    return of_either(one, other)
