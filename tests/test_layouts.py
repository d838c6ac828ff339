"""Many layouts: against a second setting, and what holds in all of them (points 4 and 13 to 20)."""

import unittest

from chosen import Chooser, fonts, formulas
from drawing import Drawing
from mathgalley.boxes import layout, measure, placed_rows
from mathgalley.errors import UnknownSymbol
from mathgalley.fonts import Font
from mathgalley.sources import parse, rows_of, text_of
from samples import A, FORMULAS, LENGTHS, symbol

FONTS = fonts()


def cases(count, most=6, deep=3):
    """Triples (font, formula, style) with each style, and with fonts in turn."""
    for k, formula in enumerate(formulas(count, most, deep)):
        for style in range(4):
            yield FONTS[(k + style) % len(FONTS)], formula, style


def shown(row):
    """The names of the symbols of a row in the order of the normal text, and how many rules it has."""
    names, rules = [], 0
    for nucleus, below, above in row:
        kind = nucleus[0]
        if kind == "symbol":
            names.append(nucleus[1])
        inner = {
            "symbol": lambda: [], "grid": lambda: [cell for cells in nucleus[1] for cell in cells],
            "fence": lambda: [nucleus[3]],
        }.get(kind, lambda: list(nucleus[1:]))()
        if kind == "root":
            names.append("@root")
        if kind == "fence" and nucleus[1]:
            names.append(nucleus[1])
        results = [shown(part) for part in inner]
        names += sum([result[0] for result in results], [])
        if kind == "fence" and nucleus[2]:
            names.append(nucleus[2])
        results += [shown(part) for part in (below, above) if part is not None]
        for part in (below, above):
            if part is not None:
                names += shown(part)[0]
        rules += (kind in ("frac", "root")) + sum(result[1] for result in results)
    return names, rules


def rectangle(part):
    """The left, lower, right and upper ends of a part, or of the box of a placed row."""
    if part[0] == "sign":
        _, _, x, y, width, height, depth = part
        return (x, y - depth, x + width, y + height)
    if part[0] == "rule":
        _, x, y, width, height = part
        return (x, y, x + width, y + height)
    x, y, _, (width, height, depth), _ = part
    return (x, y - depth, x + width, y + height)


def moved(part, x, y):
    at = 2 if part[0] == "sign" else 1
    return part[:at] + (part[at] + x, part[at + 1] + y) + part[at + 2:]


def tree_of(row):
    """For each row, in preorder: the row and how many rows it has in it, itself included."""
    found = [[row, 1]]
    for nucleus, below, above in row:
        inner = [part for part in nucleus[1:] if isinstance(part, tuple)]
        if nucleus[0] == "grid":
            inner = [cell for cells in nucleus[1] for cell in cells]
        for part in inner + [script for script in (below, above) if script is not None]:
            found += tree_of(part)
    found[0][1] = len(found)
    return found


class Agreement(unittest.TestCase):

    def check(self, font, formula, style):
        box, parts, rows = Drawing(font).drawn(formula, style)
        self.assertEqual(measure(font, formula, style), box, (text_of(formula), style))
        self.assertEqual(layout(font, formula, style), (box, tuple(parts)), (text_of(formula), style))
        self.assertEqual(placed_rows(font, formula, style), rows, (text_of(formula), style))

    def test_with_a_second_setting(self):
        for font, formula, style in cases(300):
            self.check(font, formula, style)

    def test_with_a_second_setting_of_deep_formulas(self):
        for font, formula, style in cases(100, most=3, deep=7):
            self.check(font, formula, style)

    def test_with_a_second_setting_of_single_items(self):
        for font, formula, style in cases(300, most=1, deep=2):
            self.check(font, formula, style)

    def test_every_font_in_every_style(self):
        formula = parse("@sum_{x}^{y+y}@left[@frac{x_y^{x}}{@root{x-y}}@right.+@grid{x&y~=&()}_{,}{x<y}^{.}@lim_x")
        for font in FONTS:
            for style in range(4):
                self.check(font, formula, style)

    def test_formulas_at_the_limits(self):
        font = FONTS[2]
        for text in ("x" * 80, "{" * 7 + "}" * 7, "x" + "^{x" * 7 + "}" * 7,
                     "@grid{&&&&&~&&&&&~&&&&&~&&&&&~&&&&&~&&&&&}",
                     "@root{" * 7 + "x" + "}" * 7, "@left(" * 7 + "x" + "@right)" * 7):
            for style in range(4):
                self.check(font, parse(text), style)
        for style in range(4):
            self.check(font, parse("@frac{" * 7 + "x" + "}{y}" * 7), style)


class Everywhere(unittest.TestCase):

    def test_each_symbol_is_shown_by_one_sign_in_order(self):
        for font, formula, style in cases(150, deep=4):
            parts = layout(font, formula, style)[1]
            names, rules = shown(formula)
            self.assertEqual([part[1] for part in parts if part[0] == "sign"], names)
            self.assertEqual(len([part for part in parts if part[0] == "rule"]), rules)
            self.assertEqual(len(parts), len(names) + rules)

    def test_all_parts_lie_in_the_box(self):
        for font, formula, style in cases(150, deep=4):
            (width, height, depth), parts = layout(font, formula, style)
            rows = placed_rows(font, formula, style)
            areas = [rectangle(part) for part in list(parts) + rows]
            outside = [(left, low, right, high) for left, low, right, high in areas
                       if not (0 <= left <= right <= width and -depth <= low <= high <= height)]
            self.assertEqual(outside, [], text_of(formula))

    def test_signs_and_rules_have_measures_of_their_style(self):
        font = FONTS[2]
        for part in layout(font, parse("x_{x_x}"), 1)[1]:
            self.assertIn(part[4:], [font.metrics("x", style) for style in (1, 2, 3)])

    def test_rows_of_different_places_do_not_overlap(self):
        for font, formula, style in cases(100, deep=4):
            ends = [k + many for k, (_, many) in enumerate(tree_of(formula))]
            areas = [rectangle(row) for row in placed_rows(font, formula, style)]
            pairs = [(k, m) for k, end in enumerate(ends) for m in range(end, len(areas))]
            both = [(k, m) for k, m in pairs if self.overlap(areas[k], areas[m])]
            self.assertEqual(both, [], text_of(formula))

    def overlap(self, a, b):
        return max(a[0], b[0]) < min(a[2], b[2]) and max(a[1], b[1]) < min(a[3], b[3])

    def test_a_row_for_each_row(self):
        for font, formula, style in cases(150, deep=4):
            placed = placed_rows(font, formula, style)
            rows = rows_of(formula)
            self.assertEqual(len(placed), len(rows))
            self.assertEqual(placed[0][:4], (0, 0, style, measure(font, formula, style)))
            for row, (x, _, inner, box, edges) in zip(rows, placed):
                self.assertEqual(len(edges), len(row) + 1)
                self.assertEqual((edges[0], edges[-1]), (x, x + box[0]))
                self.assertEqual(box, measure(font, row, inner))

    def test_a_row_for_itself_stands_moved_in_the_whole(self):
        for font, formula, style in cases(120, deep=4):
            whole = layout(font, formula, style)[1]
            placed = placed_rows(font, formula, style)
            for k, (row, many) in enumerate(tree_of(formula)):
                x, y, inner = placed[k][:3]
                own = tuple(moved(part, x, y) for part in layout(font, row, inner)[1])
                self.assertTrue(any(whole[m:m + len(own)] == own for m in range(len(whole) - len(own) + 1)))
                self.assertEqual(self.moved_rows(placed_rows(font, row, inner), x, y), placed[k:k + many])

    def moved_rows(self, rows, x, y):
        return [(left + x, base + y, style, box, tuple(edge + x for edge in edges))
                for left, base, style, box, edges in rows]

    def test_nothing_that_is_passed_is_changed(self):
        for font, formula, style in cases(20):
            before = (repr(formula), repr(font.symbols), repr(font.lengths))
            results = [call(font, formula, style) for call in (measure, layout, placed_rows)]
            placed_rows(font, formula, style).clear()
            self.assertEqual((repr(formula), repr(font.symbols), repr(font.lengths)), before)
            self.assertEqual([call(font, formula, style) for call in (measure, layout, placed_rows)], results)


class Missing(unittest.TestCase):

    def test_the_first_unknown_symbol_of_the_normal_text(self):
        for number in range(150):
            formula = Chooser(number).formula(5, 3)
            names = shown(formula)[0]
            font = FONTS[number % len(FONTS)]
            for gone in range(0, len(font.symbols), 3):
                lost = {font.symbols[gone][0], font.symbols[gone - 1][0], font.symbols[gone - 5][0]}
                rest = Font(tuple(entry for entry in font.symbols if entry[0] not in lost), LENGTHS)
                unknown = [name for name in names if name in lost]
                for call in (measure, layout, placed_rows):
                    if unknown:
                        with self.assertRaises(UnknownSymbol) as caught:
                            call(rest, formula, number % 4)
                        self.assertEqual(caught.exception.name, unknown[0], text_of(formula))
                    else:
                        call(rest, formula, number % 4)

    def test_every_kind_of_formula(self):
        font = Font((symbol("x")[0][1:] + ("ord", 1, 1, 1),), LENGTHS)
        for text, formula in FORMULAS:
            names = shown(formula)[0]
            if names:
                with self.assertRaises(UnknownSymbol) as caught:
                    measure(font, formula, 0)
                self.assertEqual(caught.exception.name, names[0], text)
            else:
                measure(font, formula, 0)
        self.assertEqual(shown(A), (["a"], 0))


if __name__ == "__main__":
    unittest.main()
