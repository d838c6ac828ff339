"""Carets: the places between the items of all rows, and where they stand in a layout."""

from mathgalley.boxes import placed_rows
from mathgalley.errors import NoSuchCaret
from mathgalley.fonts import AXIS, is_integer, length_of
from mathgalley.sources import rows_in, rows_of


def carets(font, formula, style):
    """The list of (x, lower end, upper end) of the carets of a formula."""
    return stands_of(font, formula, placed_rows(font, formula, style))


def nearest(font, formula, style, x, y):
    """The number of the caret that is nearest to a point."""
    return nearest_of(carets(font, formula, style), x, y)


def caret_place(formula, number):
    """The place (row, offset) of the caret of a number."""
    places = places_of(formula, 0)
    if not is_integer(number, 0, len(places) - 1):
        raise NoSuchCaret("the formula has no caret of this number")
    return places[number]


def caret_number(formula, row, offset):
    """The number of the caret of an offset of a row."""
    rows = rows_of(formula)
    if not is_integer(row, 0, len(rows) - 1) or not is_integer(offset, 0, len(rows[row])):
        raise NoSuchCaret("the formula has no caret at this place")
    return places_of(formula, 0).index((row, offset))


def places_of(row, number):
    """The list of the places of the carets of a row, which has a number, and of all rows in it."""
    places = [(number, 0)]
    inner_number = number + 1
    for k, item in enumerate(row):
        for inner in rows_in(item):
            places.extend(places_of(inner, inner_number))
            inner_number += len(rows_of(inner))
        places.append((number, k + 1))
    return places


def stands_of(font, formula, rows):
    """The list of (x, lower end, upper end) of the carets of a formula with its placed rows."""
    stands = []
    for number, offset in places_of(formula, 0):
        _, y, style, box, edges = rows[number]
        _, height, depth = box
        stands.append((edges[offset], y - depth, y + max(height, 2 * length_of(font, AXIS, style))))
    return stands


def nearest_of(stands, x, y):
    """The number of the first one of the carets that are nearest to a point."""
    distances = [distance_of(stand, x, y) for stand in stands]
    return distances.index(min(distances))


def distance_of(stand, x, y):
    """How far a point is from a caret."""
    at, lower, upper = stand
    return abs(x - at) + max(0, y - upper, lower - y)
