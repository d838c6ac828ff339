"""Boxes, layouts and placed rows, by examples (points 10 and 13 to 20)."""

import unittest

from mathgalley.boxes import layout, measure, placed_rows
from mathgalley.errors import BadStyle, UnknownSymbol
from mathgalley.fonts import Font
from mathgalley.sources import parse
from samples import LENGTHS, SYMBOLS

# x 10 8 0, 2 8 10 0, + 12 6 2, @sum 15 13 7, = 0 0 0, ( and ) 5 11 5, "," 3 1 2, @root 9 9 3;
# axis 4, rule 2, gap 2, shift 6, thin 2, medium 4, thick 6, step 5.
FONT = Font(SYMBOLS, LENGTHS)
NO_STYLES = (-1, 4, 10 ** 30, True, False, None, "0", "", b"1", 1.0, (), (1,), [1], {}, {1: 1})


def sign(name, x, y, *box):
    return ("sign", name, x, y, *box)


def rule(x, y, width, height):
    return ("rule", x, y, width, height)


class Layouts(unittest.TestCase):

    def check(self, text, style, box, *parts):
        formula = parse(text)
        self.assertEqual(layout(FONT, formula, style), (box, parts), (text, style))
        self.assertEqual(measure(FONT, formula, style), box)
        first = placed_rows(FONT, formula, style)[0]
        self.assertEqual(first[:4], (0, 0, style, box))

    def test_examples_of_the_interface(self):
        font = Font((("x", "ord", 10, 8, 0), ("2", "ord", 8, 10, 0), ("+", "bin", 12, 6, 2)), (4, 2, 2, 6, 2, 4, 6, 5))
        self.assertEqual(measure(font, parse("x+x"), 1), (40, 8, 2))
        self.assertEqual(layout(font, parse("x^2"), 1),
                         ((15, 13, 0), (sign("x", 0, 0, 10, 8, 0), sign("2", 10, 6, 5, 7, 0))))
        self.assertEqual(
            layout(font, parse("@frac x 2"), 0),
            ((10, 16, 8), (sign("x", 0, 8, 10, 8, 0), rule(0, 4, 10, 2), sign("2", 1, -8, 8, 10, 0))))

    def test_rows(self):
        for style in range(4):
            self.check("", style, (0, 0, 0))
        self.check("x", 0, (10, 8, 0), sign("x", 0, 0, 10, 8, 0))
        self.check("(", 1, (5, 11, 5), sign("(", 0, 0, 5, 11, 5))
        self.check("(", 2, (3, 7, 3), sign("(", 0, 0, 3, 7, 3))
        self.check("(", 3, (2, 5, 2), sign("(", 0, 0, 2, 5, 2))
        self.check("=", 0, (0, 0, 0), sign("=", 0, 0, 0, 0, 0))
        self.check("x+x", 0, (40, 8, 2), sign("x", 0, 0, 10, 8, 0), sign("+", 14, 0, 12, 6, 2),
                   sign("x", 30, 0, 10, 8, 0))
        self.check("x+x", 2, (22, 5, 1), sign("x", 0, 0, 7, 5, 0), sign("+", 7, 0, 8, 4, 1), sign("x", 15, 0, 7, 5, 0))
        self.check("x@sum", 3, (13, 6, 3), sign("x", 0, 0, 5, 4, 0), sign("@sum", 6, 0, 7, 6, 3))
        self.check("x=+", 1, (34, 8, 2), sign("x", 0, 0, 10, 8, 0), sign("=", 16, 0, 0, 0, 0),
                   sign("+", 22, 0, 12, 6, 2))

    def test_groups(self):
        for style in range(4):
            self.check("{}", style, (0, 0, 0))
            self.assertEqual(layout(FONT, parse("{x}"), style), layout(FONT, parse("x"), style))
            self.assertEqual(layout(FONT, parse("{{x+x}}"), style), layout(FONT, parse("x+x"), style))
        self.check("x{+}x", 1, (32, 8, 2), sign("x", 0, 0, 10, 8, 0), sign("+", 10, 0, 12, 6, 2),
                   sign("x", 22, 0, 10, 8, 0))

    def test_fractions(self):
        self.check("@frac x2", 1, (7, 13, 5), sign("x", 0, 8, 7, 5, 0), rule(0, 4, 7, 2), sign("2", 1, -5, 5, 7, 0))
        # In style 2 axis, rule and gap are 2, 1 and 1; the rows are in style 3.
        self.check("@frac 2x", 2, (5, 9, 3), sign("2", 0, 4, 4, 5, 0), rule(0, 2, 5, 1), sign("x", 0, -3, 5, 4, 0))
        self.check("@frac x2", 3, (5, 8, 4), sign("x", 0, 4, 5, 4, 0), rule(0, 2, 5, 1), sign("2", 0, -4, 4, 5, 0))
        # A depth of the upper row lifts it, one of the lower row makes the box deeper.
        self.check("@frac{(}{)}", 0, (5, 24, 14), sign("(", 0, 13, 5, 11, 5), rule(0, 4, 5, 2),
                   sign(")", 0, -9, 5, 11, 5))

    def test_empty_fractions(self):
        self.check("@frac{}{}", 0, (0, 8, 0), rule(0, 4, 0, 2))
        self.check("@frac{}{}", 3, (0, 4, 0), rule(0, 2, 0, 1))
        self.check("@frac{}x", 0, (10, 8, 6), rule(0, 4, 10, 2), sign("x", 0, -6, 10, 8, 0))
        self.check("@frac x{}", 0, (10, 16, 0), sign("x", 0, 8, 10, 8, 0), rule(0, 4, 10, 2))
        # The lower row ends above the baseline: the depth is 0.
        self.check("@frac{}{=}", 0, (0, 8, 0), rule(0, 4, 0, 2), sign("=", 0, 2, 0, 0, 0))

    def test_radicals(self):
        self.check("@root{}", 0, (9, 12, 0), sign("@root", 0, 0, 9, 12, 0), rule(9, 10, 0, 2))
        self.check("@root x", 1, (19, 12, 0), sign("@root", 0, 0, 9, 12, 0), rule(9, 10, 10, 2),
                   sign("x", 9, 0, 10, 8, 0))
        # 20 is needed: 12 and two steps of 5.
        self.check("@root(", 1, (14, 17, 5), sign("@root", 0, 0, 9, 17, 5), rule(9, 15, 5, 2),
                   sign("(", 9, 0, 5, 11, 5))
        self.check("@root(", 2, (9, 11, 3), sign("@root", 0, 0, 6, 11, 3), rule(6, 10, 3, 1), sign("(", 6, 0, 3, 7, 3))
        self.check("@root(", 3, (6, 7, 2), sign("@root", 0, 0, 4, 7, 2), rule(4, 6, 2, 1), sign("(", 4, 0, 2, 5, 2))

    def test_fences(self):
        self.check("@left(x@right)", 1, (20, 12, 4), sign("(", 0, 0, 5, 12, 4), sign("x", 5, 0, 10, 8, 0),
                   sign(")", 15, 0, 5, 12, 4))
        # 18 is needed, 21 is taken: an odd length has its greater half above the axis.
        self.check("@left(@frac x2@right)", 1, (17, 15, 6), sign("(", 0, 0, 5, 15, 6), sign("x", 5, 8, 7, 5, 0),
                   rule(5, 4, 7, 2), sign("2", 6, -5, 5, 7, 0), sign(")", 12, 0, 5, 15, 6))
        self.check("@left=x@right=", 0, (10, 9, 1), sign("=", 0, 0, 0, 9, 1), sign("x", 0, 0, 10, 8, 0),
                   sign("=", 10, 0, 0, 9, 1))

    def test_fences_without_delimiters(self):
        self.check("@left.@right.", 0, (0, 0, 0))
        self.check("@left.x+@right.", 1, (22, 8, 2), sign("x", 0, 0, 10, 8, 0), sign("+", 10, 0, 12, 6, 2))
        self.check("@left(x@right.", 1, (15, 12, 4), sign("(", 0, 0, 5, 12, 4), sign("x", 5, 0, 10, 8, 0))
        self.check("@left.x@right)", 1, (15, 12, 4), sign("x", 0, 0, 10, 8, 0), sign(")", 10, 0, 5, 12, 4))
        self.check("@left(@right.", 1, (5, 12, 4), sign("(", 0, 0, 5, 12, 4))
        self.check("@left=@right.", 1, (0, 9, 1), sign("=", 0, 0, 0, 9, 1))

    def test_grids(self):
        # Columns of 10 and 12, rows of 10 + 0 and 6 + 2; columns are 12 apart, rows 4.
        self.check("@grid{x&2~&+}", 1, (34, 15, 7), sign("x", 0, 5, 10, 8, 0), sign("2", 24, 5, 8, 10, 0),
                   sign("+", 22, -5, 12, 6, 2))
        self.assertEqual(layout(FONT, parse("@grid{x&2~&+}"), 0), layout(FONT, parse("@grid{x&2~&+}"), 1))
        # In style 2 columns are 2 * 4 apart, rows 2 * 1; the total is 7 + 2 + 1.
        self.check("@grid{2&x~=&,}", 2, (20, 7, 3), sign("2", 0, 0, 5, 7, 0), sign("x", 13, 0, 7, 5, 0),
                   sign("=", 2, -2, 0, 0, 0), sign(",", 15, -2, 2, 0, 1))
        self.check("@grid{}", 0, (0, 4, 0))
        self.check("@grid{&}", 0, (12, 4, 0))
        self.check("@grid{~}", 0, (0, 6, 0))
        self.check("@grid{,}", 1, (3, 6, 0), sign(",", 0, 5, 3, 1, 2))

    def test_grids_in_style_0_have_cells_in_style_1(self):
        self.check("@grid{@sum_x}", 0, (22, 16, 7), sign("@sum", 0, 3, 15, 13, 7), sign("x", 15, -7, 7, 5, 0))
        self.assertEqual([row[2] for row in placed_rows(FONT, parse("@grid{x_x}"), 0)], [0, 1, 2])

    def test_limits(self):
        self.check("@sum_x^2", 0, (15, 22, 14), sign("@sum", 0, 0, 15, 13, 7), sign("x", 4, -14, 7, 5, 0),
                   sign("2", 5, 15, 5, 7, 0))
        self.check("@sum_(", 0, (15, 13, 19), sign("@sum", 0, 0, 15, 13, 7), sign("(", 6, -16, 3, 7, 3))
        self.check("@sum^(", 0, (15, 25, 7), sign("@sum", 0, 0, 15, 13, 7), sign("(", 6, 18, 3, 7, 3))
        self.check("@sum_{}^{}", 0, (15, 15, 9), sign("@sum", 0, 0, 15, 13, 7))
        self.check("@sum^{xxx}", 0, (21, 20, 7), sign("@sum", 3, 0, 15, 13, 7), sign("x", 0, 15, 7, 5, 0),
                   sign("x", 7, 15, 7, 5, 0), sign("x", 14, 15, 7, 5, 0))

    def test_limits_only_in_style_0_and_for_symbols_of_the_class_op(self):
        self.check("@sum_x^2", 1, (22, 17, 10), sign("@sum", 0, 0, 15, 13, 7), sign("x", 15, -10, 7, 5, 0),
                   sign("2", 15, 10, 5, 7, 0))
        self.check("@sum_x^2", 2, (15, 12, 6), sign("@sum", 0, 0, 10, 9, 4), sign("x", 10, -6, 5, 4, 0),
                   sign("2", 10, 7, 4, 5, 0))
        self.check("@sum_x^2", 3, (12, 10, 4), sign("@sum", 0, 0, 7, 6, 3), sign("x", 7, -4, 5, 4, 0),
                   sign("2", 7, 5, 4, 5, 0))
        self.check("{@sum}_x", 0, (22, 13, 10), sign("@sum", 0, 0, 15, 13, 7), sign("x", 15, -10, 7, 5, 0))
        self.check("x_2", 0, (15, 8, 6), sign("x", 0, 0, 10, 8, 0), sign("2", 10, -6, 5, 7, 0))

    def test_scripts(self):
        self.check("x^2", 2, (11, 9, 0), sign("x", 0, 0, 7, 5, 0), sign("2", 7, 4, 4, 5, 0))
        self.check("x_2^x", 1, (17, 11, 6), sign("x", 0, 0, 10, 8, 0), sign("2", 10, -6, 5, 7, 0),
                   sign("x", 10, 6, 7, 5, 0))
        # The subscript is pushed down by the superscript's depth 3, its own height 8 and the gap 2.
        self.check("x_{@root x}^(", 1, (23, 13, 7), sign("x", 0, 0, 10, 8, 0), sign("@root", 10, -7, 6, 8, 0),
                   rule(16, 0, 7, 1), sign("x", 16, -7, 7, 5, 0), sign("(", 10, 6, 3, 7, 3))
        # The subscript reaches highest.
        self.check("=_{@root(}", 1, (9, 5, 9), sign("=", 0, 0, 0, 0, 0), sign("@root", 0, -6, 6, 11, 3),
                   rule(6, 4, 3, 1), sign("(", 6, -6, 3, 7, 3))
        self.check("=^{@left(@root(@right.}", 3, (8, 11, 0), sign("=", 0, 0, 0, 0, 0), sign("(", 0, 3, 2, 8, 3),
                   sign("@root", 2, 3, 4, 7, 2), rule(6, 9, 2, 1), sign("(", 6, 3, 2, 5, 2))
        # The superscript reaches deepest.
        self.check("=^{@grid{(~(~(}}", 1, (3, 25, 9), sign("=", 0, 0, 0, 0, 0), sign("(", 0, 18, 3, 7, 3),
                   sign("(", 0, 6, 3, 7, 3), sign("(", 0, -6, 3, 7, 3))
        # A tall and a deep nucleus: up by its height less 3, down by its depth and 3.
        self.check("(_x^x", 0, (12, 13, 8), sign("(", 0, 0, 5, 11, 5), sign("x", 5, -8, 7, 5, 0),
                   sign("x", 5, 8, 7, 5, 0))
        self.check("x_{}^{}", 1, (10, 8, 6), sign("x", 0, 0, 10, 8, 0))

    def test_the_order_of_parts(self):
        parts = layout(FONT, parse("@left(@frac x2@right)^x_2@root{=},@grid{x&2~=&}^+"), 0)[1]
        words = [part[1] if part[0] == "sign" else "bar" for part in parts]
        self.assertEqual(words, ["(", "x", "bar", "2", ")", "2", "x", "@root", "bar", "=", ",", "x", "2", "=", "+"])


class Rows(unittest.TestCase):

    def test_places_styles_boxes_and_edges(self):
        self.assertEqual(placed_rows(FONT, parse("x+@frac{x_2}{2}"), 1), [
            (0, 0, 1, (41, 17, 5), (0, 14, 30, 41)),
            (30, 12, 2, (11, 5, 4), (30, 41)),
            (37, 8, 3, (4, 5, 0), (37, 41)),
            (33, -5, 2, (5, 7, 0), (33, 38)),
        ])

    def test_rows_without_items(self):
        self.assertEqual(placed_rows(FONT, (), 3), [(0, 0, 3, (0, 0, 0), (0,))])
        self.assertEqual(placed_rows(FONT, parse("x{}_{}^{}"), 0), [
            (0, 0, 0, (10, 8, 6), (0, 10, 10)),
            (10, 0, 0, (0, 0, 0), (10,)),
            (10, -6, 2, (0, 0, 0), (10,)),
            (10, 6, 2, (0, 0, 0), (10,)),
        ])

    def test_styles_of_rows(self):
        text = "@frac x{@frac xx}{@root x}@left(x@right)@grid{x}x_x^{x^x}"
        styles = [
            [0, 1, 1, 2, 2, 0, 0, 0, 1, 2, 2, 3], [1, 2, 2, 3, 3, 1, 1, 1, 1, 2, 2, 3],
            [2, 3, 3, 3, 3, 2, 2, 2, 2, 3, 3, 3], [3, 3, 3, 3, 3, 3, 3, 3, 3, 3, 3, 3],
        ]
        for style in range(4):
            self.assertEqual([row[2] for row in placed_rows(FONT, parse(text), style)], styles[style])

    def test_edges_stand_where_the_row_stands(self):
        self.assertEqual(placed_rows(FONT, parse("@left(x+x@right)"), 0)[1], (5, 0, 0, (40, 8, 2), (5, 19, 35, 45)))

    def test_kinds_of_values(self):
        rows = placed_rows(FONT, parse("x_2"), 0)
        self.assertIs(type(rows), list)
        for row in rows:
            self.assertEqual([type(value) for value in row], [int, int, int, tuple, tuple])
        rows.append(rows.pop(0))
        self.assertEqual(placed_rows(FONT, parse("x_2"), 0)[0][0], 0)
        box, parts = layout(FONT, parse("x_2"), 0)
        self.assertEqual((type(box), type(parts)), (tuple, tuple))


class Errors(unittest.TestCase):

    def calls(self, formula, style):
        return [lambda call=call: call(FONT, formula, style) for call in (measure, layout, placed_rows)]

    def check(self, text, name):
        for style in range(4):
            for call in self.calls(parse(text), style):
                with self.assertRaises(UnknownSymbol) as caught:
                    call()
                self.assertEqual(caught.exception.name, name, text)

    def test_what_is_no_style(self):
        for style in NO_STYLES:
            for text in ("", "x", "y", "@left y@right ["):
                for call in self.calls(parse(text), style):
                    with self.assertRaises(BadStyle, msg=(text, style)):
                        call()

    def test_unknown_symbols(self):
        self.check("y", "y")
        self.check("xyz", "y")
        self.check("{y}z", "y")
        self.check("@frac yz", "y")
        self.check("@frac xz", "z")
        self.check("x_y", "y")
        self.check("@grid{x&~&y}", "y")
        self.check("@alpha y", "@alpha")

    def test_the_subscript_is_ahead_of_the_superscript(self):
        self.check("x^y_z", "z")
        self.check("x^y_x", "y")
        self.check("y^z_w", "y")
        self.check("@sum^y_z", "z")
        self.check("x_{x^y}^zw", "y")

    def test_delimiters_stand_in_their_places(self):
        self.check("@left[y@right]z", "[")
        self.check("@left(y@right]z", "y")
        self.check("@left(x@right]z", "]")
        self.check("@left(x@right)z", "z")
        self.check("@left.y@right]", "y")
        self.check("@left.@right]", "]")
        self.check("@left[@right.", "[")
        self.check("@left..@right]", ".")
        self.check("@left.x@right..", ".")
        self.check("@left(x@right._y", "y")

    def test_the_full_stop_as_a_delimiter_is_no_symbol(self):
        self.assertEqual(measure(FONT, parse("@left.x@right."), 1), (10, 8, 0))
        self.check(".", ".")
        self.check("x.@left.y@right.", ".")

    def test_the_sign_of_radicals_stands_where_its_command_stands(self):
        for call in (measure, layout, placed_rows):
            for text, name in (("@root y", "@root"), ("y@root x", "y"), ("@root{}", "@root"), ("x^{@root x}_y", "y"),
                               ("@frac{@root y}z", "@root"), ("@frac z{@root y}", "z")):
                with self.assertRaises(UnknownSymbol) as caught:
                    call(Font((("x", "ord", 1, 1, 1),), LENGTHS), parse(text), 0)
                self.assertEqual(caught.exception.name, name, text)

    def test_a_font_need_not_have_what_is_not_shown(self):
        font = Font((("x", "ord", 10, 8, 0),), LENGTHS)
        self.assertEqual(measure(font, parse("@grid{x}@left.x@right."), 1), (22, 8, 0))


if __name__ == "__main__":
    unittest.main()
