"""Reading a formula from the tokens of a text."""

from mathgalley.errors import SyntaxFault, TooDeep
from mathgalley.tokens import END, is_symbol, tokens_of

DEEPEST = 7
MOST_CELLS = 6


class Reader:
    """Goes once through the tokens of a text, from left to right.

    Depths are numbers of rows in which a row is nested. A row's depth is checked
    as soon as the token ahead of the row is passed, so that it is reported ahead
    of faults behind this token.
    """

    def __init__(self, text):
        self._tokens = tokens_of(text)
        self._at = 0

    def read(self):
        """The formula of the whole text."""
        return self._row(0, (END,))

    def _peek(self):
        return self._tokens[self._at][1]

    def _accept(self, wanted):
        place, word = self._tokens[self._at]
        if word != wanted:
            raise SyntaxFault(place)
        self._at += 1

    def _symbol(self):
        place, word = self._tokens[self._at]
        if not is_symbol(word):
            raise SyntaxFault(place)
        self._at += 1
        return word

    def _row(self, depth, stops):
        """The items up to one of the tokens stops; any other token must begin an item."""
        check_depth(depth)
        items = []
        while self._peek() not in stops:
            items.append(self._item(depth))
        return tuple(items)

    def _item(self, depth):
        nucleus = self._nucleus(depth)
        below = None
        above = None
        while True:
            if self._peek() == "_" and below is None:
                self._accept("_")
                below = self._argument(depth + 1)
            elif self._peek() == "^" and above is None:
                self._accept("^")
                above = self._argument(depth + 1)
            else:
                return (nucleus, below, above)

    def _nucleus(self, depth):
        word = self._peek()
        if word == "{":
            return ("group", self._braced(depth + 1))
        if word == "@frac":
            self._accept("@frac")
            over = self._argument(depth + 1)
            return ("frac", over, self._argument(depth + 1))
        if word == "@root":
            self._accept("@root")
            return ("root", self._argument(depth + 1))
        if word == "@left":
            return self._fence(depth + 1)
        if word == "@grid":
            return self._grid(depth + 1)
        return ("symbol", self._symbol())

    def _braced(self, depth):
        self._accept("{")
        row = self._row(depth, ("}",))
        self._accept("}")
        return row

    def _argument(self, depth):
        if self._peek() == "{":
            return self._braced(depth)
        name = self._symbol()
        check_depth(depth)
        return ((("symbol", name), None, None),)

    def _fence(self, depth):
        self._accept("@left")
        opening = self._delimiter()
        row = self._row(depth, ("@right",))
        self._accept("@right")
        return ("fence", opening, self._delimiter(), row)

    def _delimiter(self):
        name = self._symbol()
        return None if name == "." else name

    def _grid(self, depth):
        self._accept("@grid")
        self._accept("{")
        rows = [self._cells(depth, None, ("~", "}"))]
        while self._peek() == "~":
            self._accept("~")
            ends = ("~", "}") if len(rows) + 1 < MOST_CELLS else ("}",)
            rows.append(self._cells(depth, len(rows[0]), ends))
        self._accept("}")
        return ("grid", tuple(rows))

    def _cells(self, depth, many, ends):
        cells = []
        while True:
            cells.append(self._row(depth, cell_stops(len(cells) + 1, many, ends)))
            if self._peek() != "&":
                return tuple(cells)
            self._accept("&")


def check_depth(depth):
    if depth > DEEPEST:
        raise TooDeep("a row is nested in too many others")


def cell_stops(count, many, ends):
    """The tokens that may stand behind cell number count (from 1) of a tuple of cells.

    The tuple has many cells, or 1 to 6 if many is None; ends may stand behind its last cell.
    """
    if many is None:
        return ("&", *ends) if count < MOST_CELLS else ends
    return ("&",) if count < many else ends
