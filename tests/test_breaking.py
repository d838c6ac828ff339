"""Breaking into lines (points 5, 11, 12, 21 and 22)."""

import itertools
import time
import unittest

from chosen import Chooser
from lines import (
    GREATEST, NO_SETTINGS, all_breaks, cut, line_widths, plain_cost, possible, searched, some, some_settings,
)
from mathgalley.breaking import break_lines, chances, check_settings, cost_of, lines_of
from mathgalley.errors import BadBreaks, BadSettings, UnknownSymbol
from mathgalley.fonts import Font
from mathgalley.sources import parse
from samples import LENGTHS, SYMBOLS

# x 10 wide, 2 8, + 12, = 0, @sum 15, ( and ) 5; medium 4, thick 6, thin 2.
FONT = Font(SYMBOLS, LENGTHS)
# No breaks of x+x=x, where a break is possible behind the items 1 and 3.
NO_BREAKS = (
    (0,), (2,), (4,), (5,), (-1,), (-4,), (1, 1), (3, 1), (1, 3, 3), (1, 2), (0, 1), (1, 4), (3, 5),
    [1], [], [1, 3], None, True, 1, "", "1", ("1",), (None,), (True,), (True, 3), (1.0,), ((1,),), ([1],), ({},),
    {}, {1: 3}, b"\x01", range(1, 2), (1, None), (None, 1), (1, "3"),
)


class Settings(unittest.TestCase):

    def test_settings_at_their_limits(self):
        for value in ((0, 0, 0), (GREATEST, GREATEST, GREATEST), (0, GREATEST, 0), (1, 2, 3)):
            self.assertIsNone(check_settings(value))
            self.assertEqual(break_lines(FONT, (), value), ())
            self.assertEqual(cost_of(FONT, (), value, ()), 0)

    def test_what_are_no_settings(self):
        for value in NO_SETTINGS:
            with self.assertRaises(BadSettings, msg=value):
                check_settings(value)
            with self.assertRaises(BadSettings):
                break_lines(FONT, parse("x+x"), value)
            with self.assertRaises(BadSettings):
                cost_of(FONT, parse("x+x"), value, ())


class Chances(unittest.TestCase):

    def check(self, text, *wanted):
        self.assertEqual(chances(FONT, parse(text)), wanted, text)

    def test_behind_bin_and_rel(self):
        self.check("x+x=x", 1, 3)
        self.check("x=x+x", 1, 3)
        self.check("==x", 0, 1)
        self.check("=x", 0)

    def test_none(self):
        for text in ("", "x", "=", "x2", "{x+x=x}", "x^{x+x}", "(x)@sum,@frac xx", "@left(x=x@right)"):
            self.check(text)

    def test_not_behind_the_last_item(self):
        self.check("x=")
        self.check("x=x=", 1)
        self.check("x+")

    def test_not_behind_a_bin_that_has_become_ord(self):
        self.check("+x+x", 2)
        self.check("x++x", 1)
        self.check("x+=x", 2)
        self.check("(+x)+x", 4)

    def test_scripts_belong_to_their_item(self):
        self.check("x+^2 x=_x^2 x", 1, 3)

    def test_many(self):
        for font, formula in some(150):
            self.assertEqual(chances(font, formula), possible(font, formula))


class Lines(unittest.TestCase):

    def check(self, text, breaks, *wanted):
        self.assertEqual(lines_of(FONT, parse(text), breaks), wanted, text)

    def test_without_breaks(self):
        self.check("x", (), (0, 0, 10))
        self.check("x+x=x", (), (0, 4, 62))

    def test_a_formula_without_items(self):
        self.check("", (), (0, -1, 0))

    def test_with_breaks(self):
        self.check("x+x=x", (1,), (0, 1, 26), (2, 4, 32))
        self.check("x+x=x", (3,), (0, 3, 46), (4, 4, 10))
        self.check("x+x=x", (1, 3), (0, 1, 26), (2, 3, 16), (4, 4, 10))
        self.check("==2", (0, 1), (0, 0, 0), (1, 1, 0), (2, 2, 8))

    def test_classes_and_spaces_are_those_of_the_whole_formula(self):
        # Alone, the + at the end of a line would be an ord, without the space ahead of it.
        self.check("x=x+x", (1,), (0, 1, 16), (2, 4, 40))
        self.check("x+@sum", (1,), (0, 1, 26), (2, 2, 15))
        self.check("x+{}+2", (1,), (0, 1, 26), (2, 4, 0 + 4 + 12 + 4 + 8))
        self.check("x+{}+2", (1, 3), (0, 1, 26), (2, 3, 16), (4, 4, 8))

    def test_lines_are_set_in_style_1(self):
        self.check("@sum^{xx}=x", (1,), (0, 1, 15 + 14 + 6), (2, 2, 10))
        self.check("@frac xx=@grid{x}", (1,), (0, 1, 7 + 6), (2, 2, 10))

    def test_kinds_of_values(self):
        lines = lines_of(FONT, parse("x+x"), (1,))
        self.assertEqual([type(lines)] + [type(line) for line in lines], [tuple] * 3)

    def test_many(self):
        for number, (font, formula) in enumerate(some(60)):
            widths = line_widths(font, formula)
            for breaks in all_breaks(possible(font, formula))[number % 3::3]:
                wanted = tuple((*line, widths.get(line, 0)) for line in cut(formula, breaks))
                self.assertEqual(lines_of(font, formula, breaks), wanted)

    def test_what_are_no_breaks(self):
        for breaks in NO_BREAKS:
            with self.assertRaises(BadBreaks, msg=breaks):
                lines_of(FONT, parse("x+x=x"), breaks)
            with self.assertRaises(BadBreaks, msg=breaks):
                cost_of(FONT, parse("x+x=x"), (0, 0, 0), breaks)
        for text in ("", "x", "x2", "x="):
            for breaks in ((0,), (-1,), (1,), [], None):
                with self.assertRaises(BadBreaks):
                    lines_of(FONT, parse(text), breaks)

    def test_breaks_only_where_they_are_possible(self):
        formula = parse("x++x,=x+")
        for many in range(3):
            for breaks in itertools.product(range(-1, 9), repeat=many):
                if breaks in all_breaks((1, 5)):
                    lines_of(FONT, formula, breaks)
                else:
                    with self.assertRaises(BadBreaks, msg=breaks):
                        lines_of(FONT, formula, breaks)


class Costs(unittest.TestCase):

    def test_penalties_by_the_class_of_the_last_item(self):
        formula = parse("x+x=x")
        self.assertEqual(cost_of(FONT, formula, (100, 3, 7), ()), 0)
        self.assertEqual(cost_of(FONT, formula, (100, 3, 7), (1,)), 74 ** 2 + 7)
        self.assertEqual(cost_of(FONT, formula, (100, 3, 7), (3,)), 54 ** 2 + 3)
        self.assertEqual(cost_of(FONT, formula, (100, 3, 7), (1, 3)), 74 ** 2 + 7 + 84 ** 2 + 3)

    def test_lines_that_do_not_fit(self):
        formula = parse("x+x=x")
        for width, breaks in ((62, ()), (32, (1,)), (46, (3,)), (26, (1, 3))):
            self.assertIsNone(cost_of(FONT, formula, (width - 1, 0, 0), breaks))
            self.assertIsNotNone(cost_of(FONT, formula, (width, 0, 0), breaks))
        self.assertEqual(cost_of(FONT, formula, (62, 5, 5), ()), 0)
        self.assertEqual(cost_of(FONT, formula, (26, 3, 7), (1, 3)), 7 + 100 + 3)
        # The last line, too, has to fit.
        self.assertIsNone(cost_of(FONT, parse("x=xxxx"), (39, 0, 0), (1,)))
        self.assertEqual(cost_of(FONT, parse("x=xxxx"), (40, 0, 0), (1,)), 24 ** 2)

    def test_a_formula_without_items(self):
        self.assertEqual(cost_of(FONT, (), (0, 5, 5), ()), 0)

    def test_many(self):
        for number, (font, formula) in enumerate(some(40)):
            for settings in list(some_settings(font, formula, number))[::3]:
                for breaks in all_breaks(possible(font, formula))[number % 2::2]:
                    self.assertEqual(cost_of(font, formula, settings, breaks),
                                     plain_cost(font, formula, settings, breaks))


class Best(unittest.TestCase):

    def test_the_least_cost(self):
        formula = parse("x+x+x=x")
        self.assertEqual(break_lines(FONT, formula, (1000, 5, 5)), ())
        self.assertEqual(break_lines(FONT, formula, (60, 0, 0)), (3,))
        self.assertEqual(break_lines(FONT, formula, (36, 0, 0)), (1, 3))
        self.assertEqual(break_lines(FONT, formula, (26, 0, 0)), (1, 3, 5))
        self.assertIsNone(break_lines(FONT, formula, (25, 0, 0)))

    def test_penalties_count(self):
        # The line up to = is much narrower than that up to +, but costs less if a bin is dear.
        formula = parse("x=2+222")
        self.assertEqual(break_lines(FONT, formula, (52, 0, 0)), (3,))
        self.assertEqual(break_lines(FONT, formula, (52, 0, 1260)), (1,))
        self.assertEqual(break_lines(FONT, formula, (52, 1, 1260)), (3,))
        self.assertEqual(break_lines(FONT, formula, (52, 2, 1262)), (1,))

    def test_a_formula_without_items_or_breaks(self):
        self.assertEqual(break_lines(FONT, (), (0, 0, 0)), ())
        self.assertEqual(break_lines(FONT, parse("x"), (10, 0, 0)), ())
        self.assertIsNone(break_lines(FONT, parse("x"), (9, 0, 0)))
        self.assertEqual(break_lines(FONT, parse("="), (0, 0, 0)), ())

    def test_the_first_of_several(self):
        # All lines are 0 wide and all costs 0, so () is the first of all breaks.
        self.assertEqual(break_lines(FONT, parse("=" * 30), (0, 0, 0)), ())
        self.assertEqual(cost_of(FONT, parse("=" * 30), (0, 0, 0), tuple(range(29))), 0)
        # Each of the four breaks may stand alone, at the same cost.
        nothing = Font((("=", "rel", 0, 0, 0), ("x", "ord", 3, 0, 0)), (0, 1, 0, 0, 0, 0, 0, 1))
        self.assertEqual(break_lines(nothing, parse("x====x"), (3, 0, 0)), (1,))
        self.assertEqual(break_lines(nothing, parse("x==x==x"), (3, 0, 0)), (1, 4))
        self.assertEqual(cost_of(nothing, parse("x====x"), (3, 0, 0), (4,)), 0)

    def test_lines_of_one_item(self):
        wide = Font((("=", "rel", 3, 0, 0), ("x", "ord", 3, 0, 0), ("+", "bin", 3, 0, 0)), (0, 1, 0, 0, 0, 0, 0, 1))
        self.assertEqual(break_lines(wide, parse("===x"), (3, 1, 1)), (0, 1, 2))
        self.assertEqual(break_lines(wide, parse("===="), (3, 1, 1)), (0, 1, 2))
        self.assertEqual(break_lines(wide, parse("==x=x"), (6, 1, 1)), (1, 3))
        self.assertIsNone(break_lines(wide, parse("==x+x"), (3, 1, 1)))

    def test_lexicographic_order(self):
        # Lines are 0 wide and fit exactly, but for the two x: many breaks cost the same.
        nothing = Font((("=", "rel", 0, 0, 0), ("x", "ord", 3, 0, 0)), (0, 1, 0, 0, 0, 0, 0, 1))
        formula = parse("=x=x=x=")
        for settings in ((3, 0, 0), (6, 0, 0), (4, 1, 1), (9, 0, 0)):
            self.assertEqual(break_lines(nothing, formula, settings), searched(nothing, formula, settings))

    def test_against_a_search(self):
        fitting = 0
        for number, (font, formula) in enumerate(some(120)):
            for settings in some_settings(font, formula, number):
                wanted = searched(font, formula, settings)
                fitting += wanted is not None
                self.assertEqual(break_lines(font, formula, settings), wanted)
        self.assertGreater(fitting, 200)

    def test_against_a_search_with_many_equal_costs(self):
        names = (("x", "ord", 1, 0, 0), ("y", "ord", 2, 0, 0), ("+", "bin", 1, 0, 0))
        lengths = (0, 1, 0, 0, 0, 0, 0, 1)
        for number in range(60):
            small = Font(names + (("=", "rel", number % 3, 0, 0),), lengths)
            chooser = Chooser(number, shown=("x", "y", "+", "=", "="))
            formula = tuple(chooser.item(0) for _ in range(9))
            for width in range(2, 8):
                for penalties in ((0, 0), (1, 0), (3, 4)):
                    settings = (width, *penalties)
                    self.assertEqual(break_lines(small, formula, settings), searched(small, formula, settings))

    def test_many_possible_breaks_take_no_long_time(self):
        before = time.perf_counter()
        for text in ("x+" * 39 + "x", "=" * 80, "x=" * 40):
            for width in (0, 10, 30, 60, 200, 1000, GREATEST):
                breaks = break_lines(FONT, parse(text), (width, 7, 9))
                if breaks is not None:
                    self.assertIsNotNone(cost_of(FONT, parse(text), (width, 7, 9), breaks))
        self.assertLess(time.perf_counter() - before, 10)


class Order(unittest.TestCase):
    """BadSettings, then UnknownSymbol, then BadBreaks."""

    def test_bad_settings_ahead_of_unknown_symbols(self):
        for settings in NO_SETTINGS:
            with self.assertRaises(BadSettings):
                break_lines(FONT, parse("y"), settings)
            for breaks in ((), (7,), None):
                with self.assertRaises(BadSettings):
                    cost_of(FONT, parse("y"), settings, breaks)
                with self.assertRaises(BadSettings):
                    cost_of(FONT, parse("x"), settings, breaks)

    def test_unknown_symbols_ahead_of_bad_breaks(self):
        for text, name in (("y", "y"), ("x+@frac x{y}z", "y"), ("x^{y}_{z}", "z"), ("@left[x@right]", "[")):
            for call in (lambda formula: chances(FONT, formula), lambda formula: break_lines(FONT, formula, (1, 1, 1))):
                with self.assertRaises(UnknownSymbol) as caught:
                    call(parse(text))
                self.assertEqual(caught.exception.name, name)
            for breaks in ((), (1,), (7,), None, [1]):
                for call in (lambda formula: lines_of(FONT, formula, breaks),
                             lambda formula: cost_of(FONT, formula, (1, 1, 1), breaks)):
                    with self.assertRaises(UnknownSymbol) as caught:
                        call(parse(text))
                    self.assertEqual(caught.exception.name, name)

    def test_bad_breaks_ahead_of_lines_that_do_not_fit(self):
        with self.assertRaises(BadBreaks):
            cost_of(FONT, parse("x+x"), (0, 0, 0), (0,))


if __name__ == "__main__":
    unittest.main()
