"""Formulas: read from texts, written as normal texts, listed row by row."""

from mathgalley.errors import TooLarge, TooLong
from mathgalley.reading import Reader, check_depth
from mathgalley.tokens import LETTERS, is_symbol

LONGEST = 400
MOST_ITEMS = 80


def parse(text):
    """The formula that a text stands for."""
    if len(text) > LONGEST:
        raise TooLong("the text has too many characters")
    formula = Reader(text).read()
    check_formula(formula)
    return formula


def check_formula(formula):
    """Raise TooDeep or TooLarge if the formula is beyond the limits."""
    check_depth(depth_of(formula))
    items = sum([len(row) for row in rows_of(formula)])
    if items > MOST_ITEMS or len(text_of(formula)) > LONGEST:
        raise TooLarge("the formula has too many items or too long a normal text")


def rows_of(formula):
    """The list of all rows of a formula, in preorder."""
    rows = [formula]
    for item in formula:
        for row in rows_in(item):
            rows.extend(rows_of(row))
    return rows


def rows_in(item):
    """The list of the rows directly in an item: those of its nucleus, then its scripts."""
    nucleus, below, above = item
    rows = nucleus_rows(nucleus)
    if below is not None:
        rows.append(below)
    if above is not None:
        rows.append(above)
    return rows


def nucleus_rows(nucleus):
    """The list of the rows directly in a nucleus."""
    kind = nucleus[0]
    if kind == "symbol":
        return []
    if kind == "frac":
        return [nucleus[1], nucleus[2]]
    if kind == "fence":
        return [nucleus[3]]
    if kind == "grid":
        return [cell for cells in nucleus[1] for cell in cells]
    return [nucleus[1]]


def depth_of(row):
    """In how many rows, this one included, the deepest row within a row is nested."""
    return max([depth_of(inner) + 1 for item in row for inner in rows_in(item)], default=0)


def text_of(formula):
    """The normal text of a formula."""
    words = row_words(formula)
    parts = []
    for k, word in enumerate(words):
        # A letter directly behind a command would become part of the command.
        if k > 0 and word[0] in LETTERS and words[k - 1].startswith("@"):
            parts.append(" ")
        parts.append(word)
    return "".join(parts)


def symbols_of(formula):
    """The names of all symbols that a formula shows, in the order of its normal text."""
    words = row_words(formula)
    return [word for k, word in enumerate(words) if is_shown(words, k)]


def is_shown(words, k):
    """Whether the token number k of a normal text is shown by a sign."""
    word = words[k]
    if word == "." and k > 0 and words[k - 1] in ("@left", "@right"):
        return False
    return is_symbol(word) or word == "@root"


def row_words(row):
    """The tokens of the normal text of a row."""
    words = []
    for nucleus, below, above in row:
        words.extend(nucleus_words(nucleus))
        if below is not None:
            words.extend(["_"] + braced_words(below))
        if above is not None:
            words.extend(["^"] + braced_words(above))
    return words


def nucleus_words(nucleus):
    kind = nucleus[0]
    if kind == "symbol":
        return [nucleus[1]]
    if kind == "frac":
        return ["@frac"] + braced_words(nucleus[1]) + braced_words(nucleus[2])
    if kind == "root":
        return ["@root"] + braced_words(nucleus[1])
    if kind == "fence":
        return fence_words(nucleus[1], nucleus[2], nucleus[3])
    if kind == "grid":
        return grid_words(nucleus[1])
    return braced_words(nucleus[1])


def braced_words(row):
    return ["{"] + row_words(row) + ["}"]


def fence_words(opening, closing, row):
    first = "." if opening is None else opening
    last = "." if closing is None else closing
    return ["@left", first] + row_words(row) + ["@right", last]


def grid_words(rows):
    words = ["@grid"]
    between = "{"
    for cells in rows:
        for cell in cells:
            words.append(between)
            words.extend(row_words(cell))
            between = "&"
        between = "~"
    words.append("}")
    return words
