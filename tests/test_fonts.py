"""Fonts (points 9 and 10)."""

import unittest

from mathgalley.errors import BadFont, UnknownSymbol
from mathgalley.fonts import Font, scaled
from samples import LENGTHS, SIGNS, SYMBOLS

X = ("x", "ord", 10, 8, 0)
LEAST = (0, 1, 0, 0, 0, 0, 0, 1)
GREATEST = (200, 50, 100, 300, 200, 200, 200, 200)


def changed(values, at, value):
    return values[:at] + (value,) + values[at + 1:]


class Taken(unittest.TestCase):

    def test_attributes_are_those_that_are_passed(self):
        font = Font(SYMBOLS, LENGTHS)
        self.assertEqual(font.symbols, SYMBOLS)
        self.assertEqual(font.lengths, LENGTHS)

    def test_measures_at_their_limits(self):
        for at in (2, 3, 4):
            for value in (0, 1, 1000):
                Font((changed(X, at, value),), LENGTHS)
            for value in (-1, 1001, True, False, None, "1", 1.0, (1,)):
                with self.assertRaises(BadFont):
                    Font((changed(X, at, value),), LENGTHS)

    def test_lengths_at_their_limits(self):
        Font((X,), LEAST)
        Font((X,), GREATEST)
        for at in range(8):
            for value in (LEAST[at], GREATEST[at]):
                Font((X,), changed(LENGTHS, at, value))
            for value in (LEAST[at] - 1, GREATEST[at] + 1, True, False, None, "1", 1.0, (1,)):
                with self.assertRaises(BadFont, msg=(at, value)):
                    Font((X,), changed(LENGTHS, at, value))

    def test_number_of_symbols(self):
        many = tuple([(sign, "ord", 1, 1, 1) for sign in SIGNS])
        self.assertEqual(len(Font(many[:1], LENGTHS)), 1)
        self.assertEqual(len(Font(many[:59], LENGTHS)), 59)
        self.assertEqual(len(Font(many[:60], LENGTHS)), 60)
        for symbols in ((), many[:61], many):
            with self.assertRaises(BadFont):
                Font(symbols, LENGTHS)

    def test_classes(self):
        for kind in ("ord", "op", "bin", "rel", "open", "close", "punct"):
            self.assertEqual(Font((changed(X, 1, kind),), LENGTHS).class_of("x"), kind)
        for kind in ("inner", "", "Ord", "ord ", None, 0, True, ("ord",), ["ord"], b"ord"):
            with self.assertRaises(BadFont):
                Font((changed(X, 1, kind),), LENGTHS)

    def test_names(self):
        for name in list(SIGNS) + ["@a", "@alpha", "@abcdefgh", "@root", "@roots", "@lef"]:
            self.assertEqual(Font((changed(X, 0, name),), LENGTHS).class_of(name), "ord")
        for name in ("", " ", "xy", "ab", "@", "@A", "@a1", "@abcdefghi", "@frac", "@left", "@right", "@grid", "@ a",
                     "a ", "@root ", "{", "}", "^", "_", "&", "~", "\u00e9", "@\u00e9", "#", "x\n", "@a\n",
                     None, 1, True, b"x", ("x",), ["x"]):
            with self.assertRaises(BadFont, msg=name):
                Font((changed(X, 0, name),), LENGTHS)

    def test_names_twice(self):
        for name in ("x", "@root", "@alpha"):
            symbols = (changed(X, 0, name), ("y", "ord", 1, 1, 1), (name, "op", 1, 1, 1))
            with self.assertRaises(BadFont):
                Font(symbols, LENGTHS)
            with self.assertRaises(BadFont):
                Font(symbols[:1] * 2, LENGTHS)

    def test_tuples_too_short_or_too_long(self):
        for symbol in ((), X[:1], X[:4], X + (0,)):
            with self.assertRaises(BadFont):
                Font((X, symbol), LENGTHS)
        for lengths in ((), LENGTHS[:7], LENGTHS + (1,)):
            with self.assertRaises(BadFont):
                Font((X,), lengths)

    def test_other_kinds(self):
        for symbols in (None, 1, "x", [X], {X: X}, {"x": X}, X, (list(X),), ("x",), (None,), (5,), ("xxxxx",), ((X,),)):
            with self.assertRaises(BadFont, msg=symbols):
                Font(symbols, LENGTHS)
        for lengths in (None, 4, "42264425", list(LENGTHS), (LENGTHS,), dict.fromkeys(range(8)), range(1, 9)):
            with self.assertRaises(BadFont, msg=lengths):
                Font((X,), lengths)

    def test_the_fault_may_be_anywhere(self):
        many = tuple([(sign, "ord", 1, 1, 1) for sign in SIGNS[:60]])
        for at in (0, 30, 59):
            with self.assertRaises(BadFont):
                Font(changed(many, at, ("@alpha", "inner", 1, 1, 1)), LENGTHS)


class Equality(unittest.TestCase):

    def test_equal_fonts(self):
        font = Font(SYMBOLS, LENGTHS)
        self.assertTrue(font == font)
        self.assertTrue(font == Font(tuple(list(SYMBOLS)), tuple(list(LENGTHS))))
        self.assertFalse(font != Font(SYMBOLS, LENGTHS))

    def test_other_fonts(self):
        font = Font(SYMBOLS, LENGTHS)
        self.assertFalse(font == Font(SYMBOLS[1:], LENGTHS))
        self.assertFalse(font == Font(SYMBOLS[::-1], LENGTHS))
        for at in range(8):
            self.assertFalse(font == Font(SYMBOLS, changed(LENGTHS, at, LENGTHS[at] + 1)))
        for at, value in ((0, "y"), (1, "op"), (2, 11), (3, 9), (4, 1)):
            self.assertFalse(Font((X,), LENGTHS) == Font((changed(X, at, value),), LENGTHS))

    def test_something_else(self):
        font = Font(SYMBOLS, LENGTHS)
        for other in (None, 0, True, "x", SYMBOLS, (SYMBOLS, LENGTHS), [], {}, ValueError):
            self.assertIs(font == other, False)
            self.assertIs(other == font, False)
            self.assertIs(font != other, True)

    def test_len(self):
        self.assertEqual(len(Font(SYMBOLS, LENGTHS)), 9)
        self.assertEqual(len(Font((X,), LENGTHS)), 1)


class Scaling(unittest.TestCase):

    def test_scaled(self):
        wanted = {0: (0, 0, 0, 0), 1: (1, 1, 0, 0), 2: (2, 2, 1, 1), 3: (3, 3, 2, 1), 9: (9, 9, 6, 4),
                  10: (10, 10, 7, 5), 15: (15, 15, 10, 7), 1000: (1000, 1000, 700, 500), 999: (999, 999, 699, 499)}
        for number, values in wanted.items():
            self.assertEqual(tuple([scaled(number, style) for style in range(4)]), values)

    def test_scaled_numbers_below_zero(self):
        self.assertEqual([scaled(-1, style) for style in range(4)], [-1, -1, -1, -1])
        self.assertEqual([scaled(-15, style) for style in range(4)], [-15, -15, -11, -8])

    def test_metrics_in_each_style(self):
        font = Font(SYMBOLS, LENGTHS)
        wanted = ((15, 13, 7), (15, 13, 7), (10, 9, 4), (7, 6, 3))
        for style in range(4):
            self.assertEqual(font.metrics("@sum", style), wanted[style])
        self.assertEqual(font.metrics("=", 2), (0, 0, 0))
        self.assertEqual(font.metrics("@root", 3), (4, 4, 1))

    def test_class_of(self):
        font = Font(SYMBOLS, LENGTHS)
        for name, kind, _, _, _ in SYMBOLS:
            self.assertEqual(font.class_of(name), kind)

    def test_stretched_in_each_style(self):
        font = Font(SYMBOLS, LENGTHS)
        # "(" has 11 + 5 with steps of 5; then 7 + 3 with 3; then 5 + 2 with 2.
        for style, own, step in ((0, 16, 5), (1, 16, 5), (2, 10, 3), (3, 7, 2)):
            for length in range(own + 1):
                self.assertEqual(font.stretched("(", style, length), own)
            for k in range(1, 40):
                at = own + k * step
                self.assertEqual(font.stretched("(", style, at - step + 1), at)
                self.assertEqual(font.stretched("(", style, at - 1), at)
                self.assertEqual(font.stretched("(", style, at), at)
                self.assertEqual(font.stretched("(", style, at + 1), at + step)

    def test_stretched_by_a_definition_that_counts(self):
        for step in (1, 2, 3, 7, 200):
            font = Font(SYMBOLS, changed(LENGTHS, 7, step))
            for name, style in (("x", 0), ("2", 1), ("@sum", 2), ("@root", 3), ("=", 3)):
                _, height, depth = font.metrics(name, style)
                for length in range(300):
                    wanted = height + depth
                    while wanted < length:
                        wanted += max(1, scaled(step, style))
                    self.assertEqual(font.stretched(name, style, length), wanted)

    def test_a_step_that_is_scaled_to_nothing_is_one(self):
        font = Font(SYMBOLS, changed(LENGTHS, 7, 1))
        for style in (2, 3):
            self.assertEqual(font.stretched("=", style, 17), 17)

    def test_stretched_to_less_than_nothing(self):
        self.assertEqual(Font(SYMBOLS, LENGTHS).stretched("(", 0, -100), 16)

    def test_unknown_symbols(self):
        font = Font(SYMBOLS, LENGTHS)
        for name in ("y", "@alpha", "X", "@roots", "[", "@frac"):
            for call in (lambda: font.class_of(name), lambda: font.metrics(name, 0), lambda: font.metrics(name, 3),
                         lambda: font.stretched(name, 1, 0), lambda: font.stretched(name, 2, 50)):
                with self.assertRaises(UnknownSymbol) as caught:
                    call()
                self.assertEqual(caught.exception.name, name)
        with self.assertRaises(UnknownSymbol):
            Font((X,), LENGTHS).metrics("@root", 0)


if __name__ == "__main__":
    unittest.main()
