"""Editors: they keep a formula and its layout while it is edited."""

from mathgalley.boxes import check_style, check_symbols
from mathgalley.carets import caret_number, caret_place, nearest_of, stands_of
from mathgalley.changing import with_row
from mathgalley.errors import CaretsApart, CaretsReversed, HistoryFull
from mathgalley.setters import Setter
from mathgalley.sources import check_formula, parse, rows_of, text_of

MOST_EDITS = 40


class Editor:
    """A formula in a style.

    past has the pairs (formula, style) ahead of the edits that can be undone, undone those behind the
    edits that can be redone, the next one last; known has the pieces that the last layout used. Nothing
    in these three is ever changed, they are replaced: so a trial need only keep them.
    """

    def __init__(self, font, style):
        check_style(style)
        self.font = font
        self.style = style
        self.formula = ()
        self.measured = 0
        self.past = ()
        self.undone = ()
        self.known = {}

    def __len__(self):
        return len(self.past)

    def __iter__(self):
        return iter(self.past)

    def replace(self, first, last, text):
        """Put the items of a text in the place of those between two carets; the caret behind them."""
        items = parse(text)
        number, start, end = span_of(self.formula, first, last)
        row = rows_of(self.formula)[number]
        formula = with_row(self.formula, number, row[:start] + items + row[end:])
        check_formula(formula)
        check_symbols(self.font, formula)
        self._edit(formula, self.style)
        return caret_number(formula, number, start + len(items))

    def between(self, first, last):
        """The normal text of the items between two carets."""
        number, start, end = span_of(self.formula, first, last)
        return text_of(rows_of(self.formula)[number][start:end])

    def set_style(self, style):
        check_style(style)
        self._edit(self.formula, style)

    def undo(self):
        """Undo the last edit; False if there is none."""
        if len(self.past) == 0:
            return False
        self.undone = self.undone + (self._present(),)
        self.formula, self.style = self.past[-1]
        self.past = self.past[:-1]
        return True

    def redo(self):
        """Redo the edit that was undone last; False if there is none."""
        if len(self.undone) == 0:
            return False
        self.past = self.past + (self._present(),)
        self.formula, self.style = self.undone[-1]
        self.undone = self.undone[:-1]
        return True

    def layout(self):
        """The box of the formula and the parts of its layout."""
        return self._laid_out().layout()

    def carets(self):
        """The list of (x, lower end, upper end) of the carets."""
        return stands_of(self.font, self.formula, self._laid_out().rows)

    def nearest(self, x, y):
        """The number of the caret that is nearest to a point."""
        return nearest_of(self.carets(), x, y)

    def texts(self):
        """The list of the normal texts ahead of the edits that can be undone, and of the present one."""
        return [text_of(pair[0]) for pair in self.past] + [text_of(self.formula)]

    def tried(self):
        """A trial, for a with statement."""
        return Trial(self)

    def foresee(self, first, last, text):
        """What replace would give; nothing changes."""
        with self.tried() as editor:
            return editor.replace(first, last, text)

    def _present(self):
        return (self.formula, self.style)

    def _edit(self, formula, style):
        """Go on to a formula in a style, which can be undone."""
        if len(self.past) == MOST_EDITS:
            raise HistoryFull("no further edit can be kept")
        self.past = self.past + (self._present(),)
        self.undone = ()
        self.formula = formula
        self.style = style

    def _laid_out(self):
        """The piece of the formula; measures what the last layout did not use."""
        setter = Setter(self.font, self.known)
        piece = setter.set_row(self.formula, self.style)
        pairs = [(text_of(row), placed[2]) for row, placed in zip(rows_of(self.formula), piece.rows)]
        self.known = {pair: setter.pieces[pair] for pair in pairs}
        self.measured = self.measured + setter.measured
        return piece


class Trial:
    """Its editor for a with statement, behind which this is as it was when the trial was made."""

    def __init__(self, editor):
        self.editor = editor
        self.style = editor.style
        self.formula = editor.formula
        self.measured = editor.measured
        self.past = editor.past
        self.undone = editor.undone
        self.known = editor.known

    def __enter__(self):
        return self.editor

    def __exit__(self, kind, value, trace):
        editor = self.editor
        editor.style = self.style
        editor.formula = self.formula
        editor.measured = self.measured
        editor.past = self.past
        editor.undone = self.undone
        editor.known = self.known


def span_of(formula, first, last):
    """The number of the row of two carets, and their offsets."""
    number, start = caret_place(formula, first)
    other, end = caret_place(formula, last)
    if number != other:
        raise CaretsApart("the carets are in different rows")
    if start > end:
        raise CaretsReversed("the second caret is ahead of the first one")
    return (number, start, end)
