"""Formulas set in boxes: their measures, the parts of their layouts, and the places of their rows."""

from mathgalley.errors import BadStyle
from mathgalley.fonts import is_integer
from mathgalley.nuclei import (
    fence_piece, fraction_piece, grid_piece, limits_piece, root_piece, row_piece, scripts_piece, symbol_piece,
)
from mathgalley.sources import symbols_of
from mathgalley.spacing import classes_of

LAST_STYLE = 3


def measure(font, formula, style):
    """The box (width, height, depth) of a formula."""
    return set_formula(font, formula, style).box()


def layout(font, formula, style):
    """The pair of the box of a formula and the tuple of the parts of its layout."""
    piece = set_formula(font, formula, style)
    return (piece.box(), tuple(piece.parts))


def placed_rows(font, formula, style):
    """A list with (x, y, style, box, edges) for each row of a formula, by its number."""
    return list(set_formula(font, formula, style).rows)


def set_formula(font, formula, style):
    """The piece of a formula, with the errors of what cannot be set."""
    check_style(style)
    check_symbols(font, formula)
    return set_row(font, formula, style)


def check_style(style):
    """Raise BadStyle for what is no style."""
    if not is_integer(style, 0, LAST_STYLE):
        raise BadStyle("this is no style")


def check_symbols(font, formula):
    """Raise UnknownSymbol for the first symbol of a formula that the font does not have."""
    for name in symbols_of(formula):
        font.class_of(name)


def set_row(font, row, style):
    items = [set_item(font, item, style) for item in row]
    return row_piece(font, style, classes_of(font, row), items)


def set_item(font, item, style):
    nucleus, below, above = item
    piece = set_nucleus(font, nucleus, style)
    if below is None and above is None:
        return piece
    lower = set_script(font, below, style)
    upper = set_script(font, above, style)
    if style == 0 and nucleus[0] == "symbol" and font.class_of(nucleus[1]) == "op":
        return limits_piece(font, style, piece, lower, upper)
    return scripts_piece(font, style, piece, lower, upper)


def set_script(font, row, style):
    """The piece of a script of an item in a style, or None if there is none."""
    if row is None:
        return None
    return set_row(font, row, 2 if style < 2 else 3)


def set_nucleus(font, nucleus, style):
    kind = nucleus[0]
    if kind == "symbol":
        return symbol_piece(font, style, nucleus[1])
    if kind == "frac":
        inner = min(style + 1, LAST_STYLE)
        over = set_row(font, nucleus[1], inner)
        return fraction_piece(font, style, over, set_row(font, nucleus[2], inner))
    if kind == "root":
        return root_piece(font, style, set_row(font, nucleus[1], style))
    if kind == "fence":
        return fence_piece(font, style, nucleus[1], nucleus[2], set_row(font, nucleus[3], style))
    if kind == "grid":
        inner = max(1, style)
        rows = [[set_row(font, cell, inner) for cell in cells] for cells in nucleus[1]]
        return grid_piece(font, style, rows)
    return set_row(font, nucleus[1], style)
