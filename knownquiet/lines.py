"""Lines: what a desk is told, a word for what is to be done, and the parts behind it."""

from knownquiet.errors import NoLine
from knownquiet.texts import number_in

LONGEST_NAME = 8
LETTERS = "abcdefghijklmnopqrstuvwxyz"
# The sorts of parts that are kept under names of their own.
SHELVES = ("works", "run", "net")
# By their first words the sorts of parts of which lines are made; "run" has pairs of numbers more.
FORMS = {
    "works": ("name", "text"),
    "source": ("works",),
    "many": ("works", "number", "number"),
    "spread": ("works", "number", "number", "number"),
    "way": ("works", "number", "number"),
    "run": ("name", "works"),
    "do": ("run", "number"),
    "hear": ("run", "number", "number"),
    "say": ("run", "number", "word"),
    "left": ("run",),
    "quiet": ("run",),
    "bags": ("run",),
    "line": ("run",),
    "told": ("run",),
    "ahead": ("run", "number", "number"),
    "vector": ("run", "number"),
    "cuts": ("run",),
    "least": ("run",),
    "net": ("name", "works"),
    "give": ("net", "number", "number"),
    "work": ("net", "number"),
    "pass": ("net", "number"),
    "post": ("net", "number", "number"),
    "bring": ("net", "number"),
    "lose": ("net", "number"),
    "twice": ("net", "number"),
    "fall": ("net", "number", "number"),
    "bag": ("net",),
    "trip": ("net",),
    "settle": ("net", "number"),
    "says": ("net",),
    "sums": ("net",),
    "shape": ("net",),
}


def read_line(line):
    """Tell the pair of the first word of a line and the list of the pairs (sort, part) behind it."""
    if not isinstance(line, str) or "\n" in line:
        raise NoLine()
    word, _, rest = line.partition(" ")
    if word not in FORMS:
        raise NoLine()
    words = line.split(" ")[1:]
    sorts = FORMS[word]
    if word == "works":
        # A text may have blanks in it.
        name, _, text = rest.partition(" ")
        words = [name, text]
    if word == "run":
        sorts = sorts + ("number", "number") * ((len(words) - len(sorts)) // 2)
    if len(words) != len(sorts):
        raise NoLine()
    return (word, [(sort, read_part(sort, part)) for sort, part in zip(sorts, words)])


def read_part(sort, word):
    """Tell what a word is as a part of a line: a number, or the word itself."""
    if sort == "number":
        number = number_in(word)
        if number is None:
            raise NoLine()
        return number
    if sort in ("word", "text"):
        if word == "":
            raise NoLine()
        return word
    if not is_name(word):
        raise NoLine()
    return word


def is_name(word):
    """Whether a word is a name: some letters from a to z, not too many."""
    return 0 < len(word) <= LONGEST_NAME and all([sign in LETTERS for sign in word])
