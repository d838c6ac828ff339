"""Setting rows in a font."""

from mathgalley.nuclei import (
    fence_piece, fraction_piece, grid_piece, limits_piece, root_piece, row_piece, scripts_piece, symbol_piece,
)
from mathgalley.sources import text_of
from mathgalley.spacing import classes_of

LAST_STYLE = 3


class Setter:
    """Measures each pair of a normal text and a style once.

    pieces has the piece of each pair that is known, those that were known at first included;
    measured is how many pairs were measured.
    """

    def __init__(self, font, known):
        self.font = font
        self.pieces = {pair: known[pair] for pair in known}
        self.measured = 0

    def set_row(self, row, style):
        """The piece of a row in a style."""
        pair = (text_of(row), style)
        if pair not in self.pieces:
            items = [self._item(item, style) for item in row]
            self.pieces[pair] = row_piece(self.font, style, classes_of(self.font, row), items)
            self.measured += 1
        return self.pieces[pair]

    def _item(self, item, style):
        nucleus, below, above = item
        piece = self._nucleus(nucleus, style)
        if below is None and above is None:
            return piece
        lower = self._script(below, style)
        upper = self._script(above, style)
        if style == 0 and nucleus[0] == "symbol" and self.font.class_of(nucleus[1]) == "op":
            return limits_piece(self.font, style, piece, lower, upper)
        return scripts_piece(self.font, style, piece, lower, upper)

    def _script(self, row, style):
        """The piece of a script of an item in a style, or None if there is none."""
        if row is None:
            return None
        return self.set_row(row, 2 if style < 2 else LAST_STYLE)

    def _nucleus(self, nucleus, style):
        kind = nucleus[0]
        if kind == "symbol":
            return symbol_piece(self.font, style, nucleus[1])
        if kind == "frac":
            inner = min(style + 1, LAST_STYLE)
            over = self.set_row(nucleus[1], inner)
            return fraction_piece(self.font, style, over, self.set_row(nucleus[2], inner))
        if kind == "root":
            return root_piece(self.font, style, self.set_row(nucleus[1], style))
        if kind == "fence":
            return fence_piece(self.font, style, nucleus[1], nucleus[2], self.set_row(nucleus[3], style))
        if kind == "grid":
            inner = max(1, style)
            rows = [[self.set_row(cell, inner) for cell in cells] for cells in nucleus[1]]
            return grid_piece(self.font, style, rows)
        return self.set_row(nucleus[1], style)
