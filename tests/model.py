"""A second editor, for tests only: a list of states, and carets as marks in normal texts."""

import marks
from drawing import Drawing
from mathgalley.errors import (
    BadStyle, CaretsApart, CaretsReversed, HistoryFull, NoSuchCaret, SetError, UnknownSymbol,
)
from mathgalley.sources import check_formula, parse, rows_of, text_of
from mathgalley.tokens import is_symbol, tokens_of

MOST = 40


def pairs_of(font, formula, style):
    """The set of the pairs (normal text, style) of the rows of a formula."""
    _, _, placed = Drawing(font).drawn(formula, style)
    return {(text_of(row), place[2]) for row, place in zip(rows_of(formula), placed)}


def shown_names(formula):
    """The symbols of a formula and @root, in the order of the normal text."""
    words = [word for _, word in tokens_of(text_of(formula))]
    return [word for ahead, word in zip([""] + words, words)
            if (is_symbol(word) or word == "@root") and (ahead, word) not in (("@left", "."), ("@right", "."))]


class Model:
    """States are pairs (formula, style); those up to the one at hand can be undone, later ones redone."""

    def __init__(self, font, style):
        self.font = font
        self.states = [((), style)]
        self.at = 0
        self.used = set()
        self.measured = 0

    @property
    def formula(self):
        return self.states[self.at][0]

    @property
    def style(self):
        return self.states[self.at][1]

    def copy(self):
        other = Model(self.font, 0)
        other.states, other.at = list(self.states), self.at
        other.used, other.measured = set(self.used), self.measured
        return other

    def texts(self):
        return [text_of(formula) for formula, _ in self.states[:self.at + 1]]

    def edit(self, formula, style):
        if self.at == MOST:
            raise HistoryFull()
        self.states[self.at + 1:] = [(formula, style)]
        self.at += 1

    def check_carets(self, first, last):
        places = marks.places(self.formula)
        if first not in range(len(places)) or last not in range(len(places)):
            raise NoSuchCaret()
        if places[first][0] != places[last][0]:
            raise CaretsApart()
        if first > last:
            raise CaretsReversed()

    def replace(self, first, last, text):
        parse(text)
        self.check_carets(first, last)
        formula = marks.replaced(self.formula, first, last, text)
        check_formula(formula)
        known = {entry[0] for entry in self.font.symbols}
        for name in shown_names(formula):
            if name not in known:
                raise UnknownSymbol(name)
        behind = len(marks.places(formula)) - (len(marks.places(self.formula)) - last)
        self.edit(formula, self.style)
        return behind

    def between(self, first, last):
        self.check_carets(first, last)
        return marks.between(self.formula, first, last)

    def set_style(self, style):
        if style not in range(4):
            raise BadStyle()
        self.edit(self.formula, style)

    def undo(self):
        possible = self.at > 0
        self.at -= possible
        return possible

    def redo(self):
        possible = self.at + 1 < len(self.states)
        self.at += possible
        return possible

    def lay_out(self):
        used = pairs_of(self.font, self.formula, self.style)
        self.measured += len(used - self.used)
        self.used = used


def outcome(call, *arguments):
    """What a call gives, or the kind of its error with the name or the place that it tells."""
    try:
        return call(*arguments)
    except SetError as error:
        return (type(error).__name__, getattr(error, "name", None), getattr(error, "place", None))
