"""The limits of formulas: TooLong, TooDeep, TooLarge (points 3 and 7), check_formula."""

import itertools
import unittest

import oracle
from mathgalley.errors import SyntaxFault, TooDeep, TooLarge, TooLong
from mathgalley.sources import check_formula, parse, text_of
from samples import A, item, symbol

# Texts around a row that is nested in one more.
WRAPS = (("{", "}"), ("@frac{", "}{}"), ("@frac{}{", "}"), ("@root{", "}"), ("a^{", "}"), ("a_{", "}"), ("a_b^{", "}"),
         ("@left(", "@right)"), ("@left.", "@right."), ("@grid{", "}"), ("@grid{&", "}"), ("@grid{~", "}"),
         ("@grid{&~&", "}"), ("@frac a{", "}"), ("@root{}_{", "}"))
# Texts with a row of one symbol, nested in one more, and what is ahead of the end of this symbol.
SYMBOLS = (("a^b", "a^b"), ("a_b", "a_b"), ("@frac b{}", "@frac b"), ("@frac{}b", "@frac{}b"), ("@root b", "@root b"),
           ("@frac b c", "@frac b"), ("a_{}^@b", "a_{}^@b"))
FAULTS = ("#", "@", "@abcdefghi", "&", "~", "^", "_", "@right")


def nested(wraps, inner):
    for before, behind in reversed(wraps):
        inner = before + inner + behind
    return inner


class Limits(unittest.TestCase):

    def check_error(self, text, error):
        with self.assertRaises(error, msg=text) as caught:
            parse(text)
        return caught.exception

    def test_length_of_the_text(self):
        self.assertEqual(parse(" " * 400), ())
        self.assertEqual(parse("a" + " " * 399), A)
        self.check_error(" " * 401, TooLong)
        self.check_error("a" + " " * 400, TooLong)
        self.check_error("#" * 400, SyntaxFault)
        for text in ("#" * 401, "{" * 401, "}" * 401, "a" * 401):
            self.check_error(text, TooLong)

    def test_seven_others_and_eight(self):
        for wrap in WRAPS:
            for inner in ("", "a", "a+b"):
                with self.subTest(wrap):
                    parse(nested([wrap] * 7, inner))
                    self.check_error(nested([wrap] * 8, inner), TooDeep)

    def test_mixed_nestings(self):
        for first, last in itertools.product(WRAPS, repeat=2):
            for many in range(8):
                wraps = [first] * many + [last] * (7 - many)
                parse(nested(wraps, "a"))
                self.check_error(nested(wraps + [last], "a"), TooDeep)
                self.check_error(nested([first] + wraps, ""), TooDeep)

    def test_single_symbols_are_rows(self):
        for wrap in WRAPS:
            for whole, _ in SYMBOLS:
                with self.subTest((wrap, whole)):
                    parse(nested([wrap] * 6, whole))
                    self.check_error(nested([wrap] * 7, whole), TooDeep)

    def test_symbols_delimiters_and_empty_rows_at_the_greatest_depth(self):
        parse(nested([WRAPS[0]] * 7, "a+@alpha"))
        parse(nested([WRAPS[0]] * 6, "@left(@right)"))
        parse(nested([WRAPS[0]] * 6, "@grid{&&&~&&&}"))
        for inner in ("{}", "@frac{}{}", "@root{}", "a^{}", "a_{}", "@left(@right)", "@grid{}"):
            self.check_error(nested([WRAPS[0]] * 7, inner), TooDeep)

    def test_fault_ahead_of_a_row_that_is_too_deep(self):
        start = "{" * 7
        for text in ("#{", "&{", "} } # {", "a^^{", "@left{", "@grid^{", "@frac&{", "@root@root{", "a^#b"):
            self.check_error(start + text, SyntaxFault)
        fault = self.check_error("a } " + start + "{", SyntaxFault)
        self.assertEqual(fault.place, 2)

    def test_fault_at_the_same_place_or_behind(self):
        for before, _ in WRAPS:
            start = nested([("{", "")] * 7, before)
            for fault in FAULTS + (" #", "a#", " ^", ""):
                self.check_error(start + fault, TooDeep)

    def test_fault_behind_a_symbol_that_is_too_deep(self):
        for _, before in SYMBOLS:
            for fault in FAULTS + (" #", "a}#", "^^", ""):
                self.check_error("{" * 7 + before + fault, TooDeep)
            self.check_error("{" * 6 + before + " #", SyntaxFault)

    def test_incomplete_text_that_is_too_deep(self):
        self.check_error("{" * 7, SyntaxFault)
        self.check_error("{" * 8, TooDeep)
        self.check_error("{" * 400, TooDeep)
        self.check_error("{" * 7 + "a^", SyntaxFault)
        self.check_error("{" * 7 + "a^b", TooDeep)

    def test_all_continuations_of_deep_texts(self):
        tokens = ("a", ".", "{", "}", "^", "_", "&", "~", "@frac", "@root", "@left", "@right", "@grid", "#")
        for many in (6, 7):
            for start in (("{",) * many, ("@grid", "{", "~") * many, ("@left", "(") * (many - 1) + ("a", "^", "{")):
                for tail in itertools.product(tokens, repeat=3):
                    text = " ".join(start + tail)
                    self.check_error(text, TooDeep if oracle.is_deep(start + tail) else SyntaxFault)

    def test_later_cells_that_are_too_deep(self):
        self.check_error("{" * 7 + "@grid{", TooDeep)
        self.check_error("{" * 6 + "@grid{a&b^c", TooDeep)
        self.check_error("{" * 6 + "@grid{a&b~c&{", TooDeep)

    def test_number_of_items(self):
        self.assertEqual(len(parse("a" * 80)), 80)
        self.check_error("a" * 81, TooLarge)
        parse("a^b" * 40)
        self.check_error("a^b" * 40 + "c", TooLarge)
        parse("{}" * 80)
        self.check_error("{}" * 81, TooLarge)
        parse("{a}" * 40)
        self.check_error("{a}" * 40 + "a", TooLarge)
        parse("@frac{ab}{}" * 26 + "ab")
        self.check_error("@frac{ab}{}" * 27, TooLarge)
        parse("@grid{abc&defg~&}" * 10)
        self.check_error("@grid{abc&defg~&}" * 10 + "a", TooLarge)
        parse("@left(abc@right)" * 20)
        self.check_error("@left(abc@right)" * 20 + "@root{}", TooLarge)

    def test_length_of_the_normal_text(self):
        # 17 characters of normal text for each of 23, out of 13: 391, and 9 more are 400.
        text = "@abcdefgh^y_z" * 23 + "@abcdefgh"
        self.assertEqual(len(text_of(parse(text))), 400)
        self.check_error(text + " a", TooLarge)
        self.check_error(text + "1", TooLarge)
        # Blanks behind commands count.
        text = "@abcdefgh a" * 36 + "1234"
        self.assertEqual(len(text_of(parse(text))), 400)
        text = "1^@abcdefgh" * 20 + "@abcdefgh a" * 12
        self.assertEqual(len(text_of(parse(text + "12345678"))), 400)
        self.check_error(text + "123456789", TooLarge)

    def test_faults_ahead_of_too_large(self):
        self.assertEqual(self.check_error("a" * 81 + "}", SyntaxFault).place, 81)
        self.check_error("a" * 81 + "{" * 8, TooDeep)
        self.assertEqual(self.check_error("a" * 81 + "{", SyntaxFault).place, 82)


class Checking(unittest.TestCase):

    def check_error(self, formula, error):
        with self.assertRaises(error):
            check_formula(formula)

    def test_depth(self):
        makers = (lambda row: item("group", row), lambda row: item("frac", row, ()), lambda row: item("frac", (), row),
                  lambda row: item("root", row), lambda row: symbol("a", below=row),
                  lambda row: symbol("a", above=row), lambda row: item("fence", None, ")", row),
                  lambda row: item("grid", (((), ()), ((), row))))
        for maker in makers:
            for inner in ((), A):
                formula = inner
                for _ in range(7):
                    formula = (maker(formula),)
                self.assertIsNone(check_formula(formula))
                self.check_error((maker(formula),), TooDeep)
                self.check_error(A * 90 + (maker(formula),), TooDeep)

    def test_items(self):
        self.assertIsNone(check_formula(()))
        self.assertIsNone(check_formula(A * 80))
        self.check_error(A * 81, TooLarge)
        self.check_error(A * 40 + (item("group", A * 40),), TooLarge)
        self.assertIsNone(check_formula(A * 39 + (item("group", A * 40),)))

    def test_length_of_the_normal_text(self):
        long = (symbol("@abcdefgh"),)
        self.assertIsNone(check_formula(long * 44 + (symbol("1"),) * 4))
        self.check_error(long * 44 + (symbol("1"),) * 5, TooLarge)
        self.check_error(long * 44 + A * 4, TooLarge)

    def test_what_parse_returns_is_within_the_limits(self):
        for text in ("", "a" * 80, "{" * 7 + "}" * 7, "@frac12^3"):
            self.assertIsNone(check_formula(parse(text)))


if __name__ == "__main__":
    unittest.main()
