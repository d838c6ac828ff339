"""Formulas set in boxes: their measures, the parts of their layouts, and the places of their rows."""

from mathgalley.errors import BadStyle
from mathgalley.fonts import is_integer
from mathgalley.setters import LAST_STYLE, Setter
from mathgalley.sources import symbols_of


def measure(font, formula, style):
    """The box (width, height, depth) of a formula."""
    return set_formula(font, formula, style).box()


def layout(font, formula, style):
    """The pair of the box of a formula and the tuple of the parts of its layout."""
    return set_formula(font, formula, style).layout()


def placed_rows(font, formula, style):
    """A list with (x, y, style, box, edges) for each row of a formula, by its number."""
    return list(set_formula(font, formula, style).rows)


def set_formula(font, formula, style):
    """The piece of a formula, with the errors of what cannot be set."""
    check_style(style)
    check_symbols(font, formula)
    return Setter(font, {}).set_row(formula, style)


def check_style(style):
    """Raise BadStyle for what is no style."""
    if not is_integer(style, 0, LAST_STYLE):
        raise BadStyle("this is no style")


def check_symbols(font, formula):
    """Raise UnknownSymbol for the first symbol of a formula that the font does not have."""
    for name in symbols_of(formula):
        font.class_of(name)
