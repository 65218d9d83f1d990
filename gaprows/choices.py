"""Going through all ways to choose one thing of each of several lists."""


def how_many(counts):
    """How many ways there are to choose one of each, of so many things each."""
    many = 1
    for count in counts:
        many = many * count
    return many


def one_of_each(lists):
    """All tuples of one thing of each list, ascending as the lists do, the first list foremost."""
    chosen = [()]
    for things in lists:
        chosen = [ahead + (thing,) for ahead in chosen for thing in things]
    return chosen
