"""The classes of items and the spaces between them (points 11 and 12)."""

import unittest

from chosen import fonts, formulas
from drawing import NAMES, Drawing, space
from mathgalley.fonts import Font
from mathgalley.sources import parse, rows_of
from mathgalley.spacing import classes_of, space_between

KINDS = {"x": "ord", "@sum": "op", "+": "bin", "=": "rel", "(": "open", ")": "close", ",": "punct", "@root": "bin"}
FONT = Font(tuple((name, kind, 5, 5, 5) for name, kind in KINDS.items()), (4, 2, 2, 6, 7, 11, 13, 5))

# The table of point 12, as the document has it.
TABLE = """
| ord | 0 | 1 | (2) | (3) | 0 | 0 | 0 | (1) |
| op | 1 | 1 | 0 | (3) | 0 | 0 | 0 | (1) |
| bin | (2) | (2) | 0 | 0 | (2) | 0 | 0 | (2) |
| rel | (3) | (3) | 0 | 0 | (3) | 0 | 0 | (3) |
| open | 0 | 0 | 0 | 0 | 0 | 0 | 0 | 0 |
| close | 0 | 1 | (2) | (3) | 0 | 0 | 0 | (1) |
| punct | (1) | (1) | 0 | (1) | (1) | (1) | (1) | (1) |
| inner | (1) | 1 | (2) | (3) | (1) | 0 | (1) | (1) |
"""
# What each digit is in the styles 0, 1, 2 and 3, with thin 7, medium 11 and thick 13.
SPACES = {
    "0": (0, 0, 0, 0), "1": (7, 7, 4, 3), "(1)": (7, 7, 0, 0), "(2)": (11, 11, 0, 0), "(3)": (13, 13, 0, 0),
}


class Classes(unittest.TestCase):

    def check(self, text, *classes):
        row = parse(text)
        self.assertEqual(classes_of(FONT, row), list(classes), text)
        self.assertEqual(row, parse(text))

    def test_rows_without_items(self):
        self.check("")

    def test_all_classes_of_symbols(self):
        for name, kind in KINDS.items():
            if kind != "bin":
                self.check(name, kind)
        self.check("x@sum x=x(x)x,x", "ord", "op", "ord", "rel", "ord", "open", "ord", "close", "ord", "punct", "ord")

    def test_kinds_of_nuclei(self):
        self.check("{x}", "ord")
        self.check("{=}{}", "ord", "ord")
        self.check("@root x@root{=}", "ord", "ord")
        self.check("@frac xx", "inner")
        self.check("@frac{=}{=}", "inner")
        self.check("@left(x@right)", "inner")
        self.check("@left.=@right.", "inner")
        self.check("@grid{x&+~=&}", "inner")

    def test_a_bin_between_operands(self):
        self.check("x+x", "ord", "bin", "ord")
        self.check(")+x", "close", "bin", "ord")
        self.check("@frac xx+@frac xx", "inner", "bin", "inner")
        self.check("x+@sum", "ord", "bin", "op")
        self.check("x+(", "ord", "bin", "open")
        self.check("x+{=}", "ord", "bin", "ord")
        self.check("x+@root)", "ord", "bin", "ord")
        self.check("x+@left)@right)", "ord", "bin", "inner")
        self.check("{+}+@root+", "ord", "bin", "ord")
        self.check("@grid{x}+@grid{=}", "inner", "bin", "inner")

    def test_a_bin_at_the_ends(self):
        self.check("+", "ord")
        self.check("+x", "ord", "ord")
        self.check("x+", "ord", "ord")
        self.check("x+x+", "ord", "bin", "ord", "ord")

    def test_a_bin_behind_other_classes(self):
        self.check("@sum+x", "op", "ord", "ord")
        self.check("=+x", "rel", "ord", "ord")
        self.check("(+x", "open", "ord", "ord")
        self.check(",+x", "punct", "ord", "ord")
        self.check("x++x", "ord", "bin", "ord", "ord")

    def test_a_bin_ahead_of_other_classes(self):
        self.check("x+=x", "ord", "ord", "rel", "ord")
        self.check("x+)", "ord", "ord", "close")
        self.check("x+,", "ord", "ord", "punct")

    def test_several_bins(self):
        self.check("++", "ord", "ord")
        self.check("+++x", "ord", "bin", "ord", "ord")
        self.check("++x", "ord", "bin", "ord")
        self.check("x+++x", "ord", "bin", "ord", "bin", "ord")
        self.check("x++++x", "ord", "bin", "ord", "bin", "ord", "ord")
        self.check("x++=", "ord", "bin", "ord", "rel")
        self.check("x+++=", "ord", "bin", "ord", "ord", "rel")
        self.check("x+++,", "ord", "bin", "ord", "ord", "punct")
        self.check("=++x", "rel", "ord", "bin", "ord")
        self.check("(++)", "open", "ord", "ord", "close")

    def test_scripts_do_not_count(self):
        self.check("x^{=}+_x x", "ord", "bin", "ord")
        self.check("x_+ +^{,}=", "ord", "ord", "rel")
        self.check("@sum_x^{x}+x", "op", "ord", "ord")
        self.check("x+x_=^=", "ord", "bin", "ord")
        self.check("@frac xx_{=}{x}^)", "inner", "ord")

    def test_a_new_list_each_time(self):
        row = parse("x+x")
        classes_of(FONT, row).append("op")
        self.assertEqual(classes_of(FONT, row), ["ord", "bin", "ord"])

    def test_many_rows(self):
        for k, formula in enumerate(formulas(150, most=9)):
            font = fonts()[k % 8]
            for row in rows_of(formula):
                self.assertEqual(classes_of(font, row), Drawing(font).classes(row))


class Spaces(unittest.TestCase):

    def test_the_table(self):
        pairs = 0
        for line in TABLE.strip().splitlines():
            left, *digits = [cell.strip() for cell in line.strip("|").split("|")]
            for right, digit in zip(NAMES, digits):
                for style in range(4):
                    pairs += 1
                    found = space_between(FONT, left, right, style)
                    self.assertEqual(found, SPACES[digit][style], (left, right, style))
        self.assertEqual(pairs, 256)

    def test_other_lengths(self):
        for font in fonts():
            for left in NAMES:
                for right in NAMES:
                    for style in range(4):
                        self.assertEqual(space_between(font, left, right, style), space(font, left, right, style))


if __name__ == "__main__":
    unittest.main()
