"""Carets: their numbers and places, where they stand, the nearest one (points 4, 10, 27 and 28)."""

import re
import unittest

import marks
from chosen import fonts, formulas
from drawing import Drawing, to_style
from mathgalley.boxes import placed_rows
from mathgalley.carets import caret_number, caret_place, carets, nearest
from mathgalley.errors import BadStyle, NoSuchCaret, UnknownSymbol
from mathgalley.fonts import Font
from mathgalley.sources import parse, rows_of, text_of
from oracle import is_symbol
from samples import FORMULAS, LENGTHS, SYMBOLS

# x is 10 wide and 8 high, 2 is 8 wide and 10 high, + is 12 wide, 6 high and 2 deep; the axis is 4, medium 4.
FONT = Font(SYMBOLS, LENGTHS)
FONTS = fonts()
GRID = "@grid{" + "~".join(["&".join(["x"] * 6)] * 6) + "}"
FEW = [formula for _, formula in FORMULAS] + [parse(GRID)]


def all_places(formula):
    """Point 27 by its words, in a list of (place, row)."""
    rows = rows_of(formula)
    counted = [0]

    def walk(row):
        number = counted[0]
        counted[0] += 1
        found = [(number, 0)]
        for offset, (nucleus, below, above) in enumerate(row, 1):
            kind = nucleus[0]
            inner = {"symbol": [], "fence": nucleus[3:]}.get(kind, nucleus[1:])
            if kind == "grid":
                inner = [cell for cells in nucleus[1] for cell in cells]
            for part in [*inner, below, above]:
                if part is not None:
                    found += walk(part)
            found.append((number, offset))
        return found

    found = walk(formula)
    assert counted[0] == len(rows)
    return found


def font_for(formula):
    """A font with the symbols of a formula."""
    names = {token for token in re.findall("@[a-z]+|.", text_of(formula)) if is_symbol(token)} | {"@root"}
    return Font(tuple((name, "op", 7, k, 2 * k) for k, name in enumerate(sorted(names))), LENGTHS)


class Places(unittest.TestCase):

    def check(self, text, *wanted):
        formula = parse(text)
        found = [caret_place(formula, number) for number in range(len(wanted))]
        self.assertEqual(found, list(wanted), text)
        with self.assertRaises(NoSuchCaret):
            caret_place(formula, len(wanted))

    def test_a_formula_without_items(self):
        self.check("", (0, 0))

    def test_symbols(self):
        self.check("x", (0, 0), (0, 1))
        self.check("xxx", (0, 0), (0, 1), (0, 2), (0, 3))

    def test_empty_rows(self):
        self.check("{}", (0, 0), (1, 0), (0, 1))
        self.check("@frac{}{}", (0, 0), (1, 0), (2, 0), (0, 1))
        self.check("@root{}x", (0, 0), (1, 0), (0, 1), (0, 2))
        self.check("x_{}^{}", (0, 0), (1, 0), (2, 0), (0, 1))

    def test_scripts(self):
        self.check("x_a^b", (0, 0), (1, 0), (1, 1), (2, 0), (2, 1), (0, 1))
        self.check("x^b_a", (0, 0), (1, 0), (1, 1), (2, 0), (2, 1), (0, 1))
        self.check("{a}^b", (0, 0), (1, 0), (1, 1), (2, 0), (2, 1), (0, 1))

    def test_fractions_and_fences(self):
        self.check("x@frac{ab}c", (0, 0), (0, 1), (1, 0), (1, 1), (1, 2), (2, 0), (2, 1), (0, 2))
        self.check("@left(a@right)x", (0, 0), (1, 0), (1, 1), (0, 1), (0, 2))

    def test_grids(self):
        self.check("@grid{a&~&b}x", (0, 0), (1, 0), (1, 1), (2, 0), (3, 0), (4, 0), (4, 1), (0, 1), (0, 2))

    def test_rows_within_rows(self):
        self.check("{x^{a}}y_b", (0, 0), (1, 0), (2, 0), (2, 1), (1, 1), (0, 1), (3, 0), (3, 1), (0, 2))

    def test_as_many_as_items_and_rows(self):
        for formula in FEW + formulas(150):
            rows = rows_of(formula)
            many = len(rows) + sum(len(row) for row in rows)
            found = [caret_place(formula, number) for number in range(many)]
            wanted = all_places(formula)
            self.assertEqual(found, wanted)
            self.assertEqual(marks.places(formula), wanted)
            self.assertEqual(sorted(found), [(k, n) for k, row in enumerate(rows) for n in range(len(row) + 1)])
            self.assertEqual([caret_number(formula, *place) for place in found], list(range(many)))
            for number in (-1, -many, many, many + 1, 10 ** 30, -10 ** 30):
                with self.assertRaises(NoSuchCaret):
                    caret_place(formula, number)

    def test_a_pair_of_integers(self):
        place = caret_place(parse("x^2"), 1)
        self.assertEqual([type(place)] + [type(number) for number in place], [tuple, int, int])
        self.assertIs(type(caret_number(parse("x^2"), 1, 0)), int)

    def test_places_just_outside(self):
        for formula in FEW + formulas(30):
            rows = rows_of(formula)
            outside = [(-1, 0), (len(rows), 0), (len(rows), -1), (10 ** 30, 0), (0, 10 ** 30), (-len(rows), 0)]
            outside += [(k, n) for k, row in enumerate(rows) for n in (-1, -len(row) - 1, len(row) + 1)]
            for row, offset in outside:
                with self.assertRaises(NoSuchCaret, msg=(row, offset)):
                    caret_number(formula, row, offset)

    def test_what_are_no_integers(self):
        formula = parse("xx{x}")
        for value in (None, True, False, "0", "", 0.0, 1.0, (0,), [0], (0, 0), {}):
            with self.assertRaises(NoSuchCaret):
                caret_place(formula, value)
            with self.assertRaises(NoSuchCaret):
                caret_number(formula, value, 0)
            with self.assertRaises(NoSuchCaret):
                caret_number(formula, 0, value)


class Stands(unittest.TestCase):

    def check(self, text, style, *wanted):
        self.assertEqual(carets(FONT, parse(text), style), list(wanted), (text, style))

    def test_a_formula_without_items(self):
        self.check("", 0, (0, 0, 8))
        self.check("", 1, (0, 0, 8))
        # The axis 4 is scaled first: 2 in both styles.
        self.check("", 2, (0, 0, 4))
        self.check("", 3, (0, 0, 4))

    def test_an_odd_axis_is_scaled_ahead_of_being_doubled(self):
        font = Font(SYMBOLS, (5, 2, 2, 6, 2, 4, 6, 5))
        self.assertEqual([carets(font, (), style) for style in range(4)],
                         [[(0, 0, 10)], [(0, 0, 10)], [(0, 0, 6)], [(0, 0, 4)]])

    def test_left_edges_and_the_right_end(self):
        self.check("x", 1, (0, 0, 8), (10, 0, 8))
        # The spaces of 4 lie ahead of the carets, these stand at the left edges of the items behind.
        self.check("x+x", 1, (0, -2, 8), (14, -2, 8), (30, -2, 8), (40, -2, 8))
        self.check("x+x", 2, (0, -1, 5), (7, -1, 5), (15, -1, 5), (22, -1, 5))

    def test_from_the_depth_to_the_height_or_twice_the_axis(self):
        self.check("2", 1, (0, 0, 10), (8, 0, 10))
        self.check(",", 1, (0, -2, 8), (3, -2, 8))
        self.check("+", 1, (0, -2, 8), (12, -2, 8))
        self.check("(", 3, (0, -2, 5), (2, -2, 5))
        self.check("=", 3, (0, 0, 4), (0, 0, 4))

    def test_scripts(self):
        # The 2 is 5 wide and 7 high, 6 above the baseline.
        self.check("x^2", 1, (0, 0, 13), (10, 6, 13), (15, 6, 13), (15, 0, 13))
        self.check("x^{}", 1, (0, 0, 8), (10, 6, 10), (10, 0, 8))
        self.check("x_{}", 1, (0, -6, 8), (10, -6, -2), (10, -6, 8))

    def test_an_item_stands_with_its_scripts(self):
        # Limits in style 0: the nucleus 15 wide stands at 6 below the script of 28.
        self.assertEqual(placed_rows(FONT, parse("@sum^{xxxx}"), 0)[0][4], (0, 28))
        self.check("@sum^{xxxx}", 0, (0, -7, 20), *[(x, 15, 20) for x in (0, 7, 14, 21, 28)], (28, -7, 20))

    def test_fractions_in_their_styles(self):
        self.check("@frac x 2", 0, (0, -8, 16), (0, 8, 16), (10, 8, 16), (1, -8, 2), (9, -8, 2), (10, -8, 16))
        self.check("@frac{}{}", 1, (0, 0, 8), (0, 8, 12), (0, 2, 6), (0, 0, 8))

    def test_grids(self):
        font = Font(SYMBOLS, (4, 2, 2, 6, 2, 4, 6, 5))
        # One row of cells, 10 and 8 wide, 12 apart, 10 high: from 9 down to -1.
        self.assertEqual(carets(font, parse("@grid{x&2}"), 1), [
            (0, -1, 9), (0, -1, 7), (10, -1, 7), (22, -1, 9), (30, -1, 9), (30, -1, 9)])
        # Two rows of empty cells, 4 apart: their baselines are at 6 and 2.
        self.assertEqual(carets(font, parse("@grid{&~&}"), 1), [
            (0, 0, 8), (0, 6, 14), (12, 6, 14), (0, 2, 10), (12, 2, 10), (12, 0, 8)])

    def test_against_a_second_setting(self):
        cases = [(font_for(formula), formula) for formula in FEW]
        cases += [(FONTS[number % len(FONTS)], formula) for number, formula in enumerate(formulas(80))]
        for font, formula in cases:
            for style in range(4):
                drawing = Drawing(font)
                _, _, rows = drawing.drawn(formula, style)
                wanted = []
                for row, offset in all_places(formula):
                    _, y, row_style, (_, height, depth), edges = rows[row]
                    axis = to_style(font.lengths[0], row_style)
                    wanted.append((edges[offset], y - depth, max(y + height, y + axis + axis)))
                found = carets(font, formula, style)
                self.assertEqual(found, wanted)
                self.assertIsNot(carets(font, formula, style), found)

    def test_kinds_of_values(self):
        found = carets(FONT, parse("x^2"), 1)
        self.assertEqual([type(found)] + [type(stand) for stand in found], [list] + [tuple] * 4)


class Nearest(unittest.TestCase):

    def check(self, text, wanted, style=1):
        formula = parse(text)
        for (x, y), number in wanted.items():
            self.assertEqual(nearest(FONT, formula, style, x, y), number, (text, x, y))

    def test_a_formula_without_items(self):
        self.check("", {(0, 0): 0, (-50, 7): 0, (10 ** 9, -10 ** 9): 0})

    def test_in_a_row(self):
        # Carets at 0, 14, 30 and 40, from -2 up to 8.
        self.check("x+x", {
            (0, 0): 0, (6, 0): 0, (8, 0): 1, (14, 3): 1, (21, 3): 1, (23, 3): 2, (34, 0): 2, (36, 0): 3, (40, 8): 3,
        })

    def test_midway_the_first_one(self):
        self.check("x+x", {(7, 0): 0, (22, 0): 1, (35, 0): 2, (7, 100): 0, (22, -100): 1})

    def test_far_away(self):
        for far in (1000, 10 ** 20):
            self.check("x+x", {
                (-far, 0): 0, (far, 0): 3, (0, far): 0, (0, -far): 0, (40, far): 3, (far, far): 3, (-far, -far): 0,
                (14, -far): 1,
            })

    def test_above_and_below(self):
        # x^2: (0, 0, 13), (10, 6, 13), (15, 6, 13), (15, 0, 13).
        self.check("x^2", {
            (10, 6): 1, (10, 13): 1, (10, 5): 1, (10, 4): 1, (10, 1): 1, (10, 0): 3, (10, -1): 3, (9, 1): 1, (9, 0): 3,
            (15, 7): 2, (15, 6): 2, (15, 5): 3, (15, 0): 3, (15, 30): 2, (4, 0): 0, (12, 20): 1, (13, 20): 2,
        })

    def test_carets_at_one_place_the_first_one(self):
        self.check("{{}}", {(0, 0): 0, (5, 5): 0})
        self.check("==", {(0, 0): 0, (3, 3): 0})
        self.check("@frac{}{}", {(0, 0): 0, (0, 8): 0, (0, 9): 1, (0, 12): 1, (0, 20): 1, (0, -1): 0})

    def test_against_a_search(self):
        for number, formula in enumerate(formulas(60, most=4, deep=2)):
            font, style = FONTS[number % len(FONTS)], number % 4
            stands = carets(font, formula, style)
            xs = sorted({stand[0] + d for stand in stands for d in (-1, 0, 2)})[::3]
            ys = sorted({stand[k] + d for stand in stands for k in (1, 2) for d in (-2, 0, 1)})[::4]
            for x in xs[:9] + [-10 ** 6]:
                for y in ys[:9] + [10 ** 6]:
                    best = None
                    for k, (at, lower, upper) in enumerate(stands):
                        distance = max(at - x, x - at)
                        distance += y - upper if y > upper else lower - y if y < lower else 0
                        if best is None or distance < best[0]:
                            best = (distance, k)
                    self.assertEqual(nearest(font, formula, style, x, y), best[1])

    def test_the_stand_of_a_caret_leads_to_one_that_stands_there(self):
        for formula in formulas(40):
            stands = carets(FONTS[2], formula, 0)
            for x, lower, upper in stands:
                for y in (lower, upper):
                    at, low, high = stands[nearest(FONTS[2], formula, 0, x, y)]
                    self.assertTrue(at == x and low <= y <= high)


class Errors(unittest.TestCase):

    def test_bad_styles(self):
        for style in (-1, 4, 10 ** 9, None, True, False, "0", 1.0, (1,), [0]):
            for text in ("", "x", "y"):
                with self.assertRaises(BadStyle):
                    carets(FONT, parse(text), style)
                with self.assertRaises(BadStyle):
                    nearest(FONT, parse(text), style, 0, 0)

    def test_unknown_symbols(self):
        for text, name in (("y", "y"), ("x^{y}_{z}", "z"), ("x@left(x@right]", "]"), ("@root{y}z", "y")):
            for call in (lambda formula: carets(FONT, formula, 0), lambda formula: nearest(FONT, formula, 3, 0, 0)):
                with self.assertRaises(UnknownSymbol) as caught:
                    call(parse(text))
                self.assertEqual(caught.exception.name, name)
        with self.assertRaises(UnknownSymbol) as caught:
            carets(Font(SYMBOLS[:1], LENGTHS), parse("x@root{y}"), 0)
        self.assertEqual(caught.exception.name, "@root")

    def test_numbers_and_places_need_no_font(self):
        self.assertEqual(caret_place(parse("@unknown"), 1), (0, 1))
        self.assertEqual(caret_number(parse("@unknown"), 0, 1), 1)


if __name__ == "__main__":
    unittest.main()
