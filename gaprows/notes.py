"""Sentences written as texts of words, and such texts read."""

from gaprows.errors import BadText
from gaprows.looking import check_sentence

# What goes behind each word that begins a thing of a kind, in turn.
BEHIND = {
    ("sentence", "rows"): ("number",),
    ("sentence", "keep"): ("sentence", "condition"),
    ("sentence", "pick"): ("sentence", "columns"),
    ("sentence", "join"): ("sentence", "sentence", "pairs"),
    ("sentence", "both"): ("sentence", "sentence"),
    ("sentence", "without"): ("sentence", "sentence"),
    ("condition", "is"): ("part", "part"),
    ("condition", "less"): ("part", "part"),
    ("condition", "lacks"): ("part",),
    ("condition", "not"): ("condition",),
    ("condition", "true"): ("condition",),
    ("condition", "and"): ("condition", "condition"),
    ("condition", "or"): ("condition", "condition"),
    ("part", "plus"): ("part", "part"),
    ("part", "take"): ("part", "part"),
}


def words_of_numbers(kind, told):
    """The words for a number, columns or pairs."""
    if kind == "number":
        return [str(told)]
    numbers = [len(told)]
    if kind == "columns":
        numbers.extend(told)
    else:
        for pair in told:
            numbers.extend(pair)
    return [str(number) for number in numbers]


def words_of(kind, thing):
    """The words for a thing of a kind."""
    if kind in ("number", "columns", "pairs"):
        return words_of_numbers(kind, thing)
    word = thing[0]
    if word == "col":
        return [f"c{thing[1]}"]
    if word == "num":
        return [str(thing[1])]
    words = [word]
    for inner_kind, inner in zip(BEHIND[kind, word], thing[1:]):
        words.extend(words_of(inner_kind, inner))
    return words


def written(sentence, widths):
    """A sentence over tables of such widths as a text."""
    check_sentence(sentence, widths)
    return " ".join(words_of("sentence", sentence))


def is_figures(word):
    """Whether a word is a number of one or two figures without a needless 0."""
    return len(word) in (1, 2) and word.isdecimal() and str(int(word)) == word


class Words:
    """The words of a text, taken one by one."""

    def __init__(self, text):
        self.words = text.split(" ")
        self.place = 0

    def following(self):
        """The next word; refused if there is none."""
        if self.place >= len(self.words):
            raise BadText(len(self.words))
        word = self.words[self.place]
        self.place += 1
        return word

    def number(self):
        """The number that the next word is."""
        word = self.following()
        if not is_figures(word):
            raise BadText(self.place - 1)
        return int(word)

    def columns(self):
        """So many columns as the next word tells."""
        many = self.number()
        return tuple([self.number() for _ in range(many)])

    def pairs(self):
        """So many pairs as the next word tells."""
        many = self.number()
        return tuple([(self.number(), self.number()) for _ in range(many)])

    def end(self):
        """Refuse a word that is left over."""
        if self.place < len(self.words):
            raise BadText(self.place)


class Begun:
    """A thing that is begun: what of it is there, and the kinds of what must come behind, in turn."""

    def __init__(self, found, behind):
        self.found = list(found)
        self.behind = list(behind)


def begin(kind, words):
    """The thing of a kind that the next word begins."""
    word = words.following()
    if kind == "part" and is_figures(word):
        return Begun(("num", int(word)), ())
    if kind == "part" and word[:1] == "c" and is_figures(word[1:]):
        return Begun(("col", int(word[1:])), ())
    if (kind, word) not in BEHIND:
        raise BadText(words.place - 1)
    return Begun((word,), BEHIND[kind, word])


def go_on(things, words):
    """Read on the last of the things begun, each of which stands within the one ahead of it."""
    last = things[-1]
    if not last.behind:
        things.pop()
        things[-1].found.append(tuple(last.found))
        return
    kind = last.behind.pop(0)
    if kind == "number":
        last.found.append(words.number())
    elif kind == "columns":
        last.found.append(words.columns())
    elif kind == "pairs":
        last.found.append(words.pairs())
    else:
        things.append(begin(kind, words))


def read(text, widths):
    """The sentence, over tables of such widths, that a text tells."""
    words = Words(text)
    whole = Begun((), ("sentence",))
    things = [whole]
    # No calls within calls: what stands in a text may lie more than a thousand deep.
    while len(things) > 1 or whole.behind:
        go_on(things, words)
    words.end()
    sentence = whole.found[0]
    check_sentence(sentence, widths)
    return sentence
