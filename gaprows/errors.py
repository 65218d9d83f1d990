"""All refusals of the program."""


class GapError(ValueError):
    """Any refusal."""


class BadTables(GapError):
    """Tables, or a row, that can't be: the table's number and the row's, -1 for none."""

    def __init__(self, table, row):
        super().__init__(f"table {table}, row {row} can't be")
        self.table = table
        self.row = row


class BadSentence(GapError):
    """A sentence or condition that can't be: the number of the thing in it, and a word why."""

    def __init__(self, at, why):
        super().__init__(f"thing {at} can't be: {why}")
        self.at = at
        self.why = why


class BadColumn(GapError):
    """A column that the rows of a sentence don't have."""


class BadTop(GapError):
    """A number, for what is filled in or lies beneath, that can't be."""


class TooMany(GapError):
    """More to go through than is promised."""


class BadText(GapError):
    """A text that can't be read: the place of the first word that can't stand there."""

    def __init__(self, place):
        super().__init__(f"the text can't be read from word {place} on")
        self.place = place
