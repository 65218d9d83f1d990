"""Tables, conditions and sentences for tests: the same ones for the same seed."""

import random

BOUNDED = 60


def things(thing):
    """How many sentences, conditions and parts stand in one of them, itself too."""
    word = thing[0]
    if word in ("rows", "col", "num"):
        return 1
    within = {"pick": 1, "join": 2, "lacks": 1, "not": 1, "true": 1}.get(word, 2)
    return 1 + sum(things(inner) for inner in thing[1:1 + within])


class Sampler:
    def __init__(self, seed, low=0, high=3, names=3, gaps=0.4, lacking=True):
        self.dice = random.Random(seed)
        self.low, self.high, self.names, self.gaps = low, high, names, gaps
        # Whether conditions may tell gaps from numbers, by lacks and true.
        self.lacking = lacking

    def cell(self):
        if self.dice.random() < self.gaps:
            return ("gap", self.dice.randrange(self.names))
        return self.dice.randint(self.low, self.high)

    def row(self, wide):
        return tuple(self.cell() for _ in range(wide))

    def tables(self, many=3, wide=3, most=3):
        found = []
        for _ in range(self.dice.randint(1, many)):
            columns = self.dice.randint(1, wide)
            height = max(self.dice.randint(0, most), self.dice.randint(0, most))
            found.append((columns, [self.row(columns) for _ in range(height)]))
        return found

    def part(self, wide, depth):
        kind = self.dice.random()
        if depth and kind < 0.3:
            word = self.dice.choice(("plus", "take"))
            return (word, self.part(wide, depth - 1), self.part(wide, depth - 1))
        if kind < 0.8:
            return ("col", self.dice.randrange(wide))
        return ("num", self.dice.randint(self.low, self.high))

    def condition(self, wide, depth):
        over_parts = ["is", "less"] + ["lacks"] * self.lacking
        over_conditions = ["not", "and", "or"] + ["true"] * self.lacking
        word = self.dice.choice(over_parts + over_conditions * (depth > 0))
        if word in ("is", "less"):
            return (word, self.part(wide, 2), self.part(wide, 2))
        if word == "lacks":
            return (word, self.part(wide, 2))
        one = self.condition(wide, depth - 1)
        if word in ("not", "true"):
            return (word, one)
        return (word, one, self.condition(wide, depth - 1))

    def columns(self, wide, many):
        return tuple(self.dice.randrange(wide) for _ in range(many))

    def sentence(self, widths, depth):
        """A sentence and how many columns it has, perhaps with too many things in it."""
        if not depth:
            table = self.dice.randrange(len(widths))
            return ("rows", table), widths[table]
        word = self.dice.choice(("rows", "keep", "pick", "join", "both", "without", "without"))
        if word == "rows":
            return self.sentence(widths, 0)
        one, wide = self.sentence(widths, depth - 1)
        if word == "keep":
            return ("keep", one, self.condition(wide, 2)), wide
        if word == "pick":
            many = self.dice.randint(1, min(wide + 1, 8))
            return ("pick", one, self.columns(wide, many)), many
        other, other_wide = self.sentence(widths, depth - 1)
        if word == "join":
            return self.join(one, wide, other, other_wide)
        if wide != other_wide:
            many = min(wide, other_wide, 2)
            one = ("pick", one, self.columns(wide, many))
            other = ("pick", other, self.columns(other_wide, many))
            wide = many
        return (word, one, other), wide

    def join(self, one, wide, other, other_wide):
        if wide + other_wide > 8:
            one, wide = ("pick", one, self.columns(wide, 2)), 2
            other, other_wide = ("pick", other, self.columns(other_wide, 2)), 2
        pairs = []
        for _ in range(self.dice.choice((0, 1, 1, 2))):
            pairs.append((self.dice.randrange(wide), self.dice.randrange(other_wide)))
        return ("join", one, other, tuple(pairs)), wide + other_wide

    def case(self, depth=3, most=3):
        """A sentence, tables that it is over, and how many columns it has."""
        while True:
            tables = self.tables(most=most)
            sentence, wide = self.sentence([width for width, _ in tables], depth)
            if things(sentence) <= BOUNDED:
                return sentence, tables, wide
