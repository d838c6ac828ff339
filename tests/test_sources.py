"""Texts that are formulas: parse, text_of, rows_of (points 4 to 8)."""

import itertools
import unittest

import samples
from mathgalley.sources import check_formula, parse, rows_of, text_of
from samples import A, B, FORMULAS, SIGNS, item, symbol


class Reading(unittest.TestCase):

    def test_example_of_the_interface(self):
        wanted = ((("symbol", "x"), ((("symbol", "i"), None, None),), ((("symbol", "2"), None, None),)),)
        self.assertEqual(parse("x^2_ i"), wanted)
        self.assertEqual(text_of(parse("@frac 1 2 @alpha x")), "@frac{1}{2}@alpha x")
        self.assertEqual(text_of(parse("@left( a @right .")), "@left(a@right.")

    def test_normal_texts(self):
        for text, formula in FORMULAS:
            with self.subTest(text):
                self.assertEqual(parse(text), formula)
                self.assertEqual(text_of(formula), text)
                self.assertIsNone(check_formula(formula))

    def test_values_are_tuples_throughout(self):
        def check(value):
            self.assertIn(type(value), (tuple, str, type(None)))
            if isinstance(value, tuple):
                for inner in value:
                    check(inner)
        for text, _ in FORMULAS:
            check(parse(text))

    def test_spaces_between_all_tokens(self):
        for text, formula in FORMULAS:
            tokens = split(text)
            for spaces in (" ", "   "):
                wide = spaces + spaces.join(tokens) + spaces
                with self.subTest(wide):
                    self.assertEqual(parse(wide), formula)

    def test_only_the_space_is_a_space(self):
        self.assertEqual(parse(" "), ())
        for other in "\t\n\r\v\f\u00a0\u2003":
            with self.assertRaises(ValueError):
                parse("a" + other + "b")

    def test_each_sign_is_a_symbol(self):
        for sign in SIGNS:
            self.assertEqual(parse(sign), (symbol(sign),))
            self.assertEqual(text_of(parse(sign)), sign)
            self.assertEqual(parse("a^" + sign), (symbol("a", above=(symbol(sign),)),))

    def test_each_sign_as_delimiter(self):
        for sign in SIGNS:
            name = None if sign == "." else sign
            blank = " " if sign in SIGNS[:26] else ""
            text = "@left" + blank + sign + "@right" + blank + sign
            self.assertEqual(parse(text), (item("fence", name, name, ()),))
            self.assertEqual(text_of(parse(text)), text)

    def test_commands_of_one_to_eight_letters(self):
        for many in range(1, 9):
            name = "@" + "abcdefghz"[-many:]
            self.assertEqual(parse(name), (symbol(name),))
            self.assertEqual(parse(name + name), (symbol(name), symbol(name)))
        for name in ("@fra", "@fracs", "@roots", "@lef", "@leftx", "@rights", "@gridx", "@gri", "@rootrght"):
            self.assertEqual(parse(name), (symbol(name),))

    def test_a_command_takes_only_letters_a_to_z(self):
        self.assertEqual(parse("@aB"), (symbol("@a"), symbol("B")))
        self.assertEqual(parse("@a1"), (symbol("@a"), symbol("1")))
        self.assertEqual(parse("@a@b"), (symbol("@a"), symbol("@b")))
        self.assertEqual(parse("@abcdefghI"), (symbol("@abcdefgh"), symbol("I")))
        self.assertEqual(parse("@frac12"), (item("frac", (symbol("1"),), (symbol("2"),)),))
        self.assertEqual(parse("@fracab"), (symbol("@fracab"),))

    def test_scripts_in_any_order(self):
        both = (symbol("a", below=A, above=B),)
        for text in ("a_a^b", "a^b_a", "a_{a}^b", "a^{b}_a", "a ^ b _ { a }"):
            self.assertEqual(parse(text), both)
        self.assertEqual(text_of(both), "a_{a}^{b}")

    def test_arguments_in_braces_and_single_symbols_are_one_formula(self):
        pairs = (("@frac a b", "@frac{a}{b}"), ("@frac a{b}", "@frac{a}b"), ("@root a", "@root{a}"),
                 ("@frac@alpha b", "@frac{@alpha}{b}"), ("a^@alpha", "a^{@alpha}"))
        for short, long in pairs:
            self.assertEqual(parse(short), parse(long))
            self.assertEqual(text_of(parse(short)), text_of(parse(long)))

    def test_a_group_is_no_braces_of_an_argument(self):
        self.assertNotEqual(parse("{a}"), parse("a"))
        self.assertEqual(parse("a^{{b}}"), (symbol("a", above=(item("group", B),)),))
        self.assertEqual(text_of(parse("a^{{b}}")), "a^{{b}}")

    def test_an_argument_takes_one_symbol(self):
        self.assertEqual(parse("a^12"), (symbol("a", above=(symbol("1"),)), symbol("2")))
        self.assertEqual(parse("@frac123"), (item("frac", (symbol("1"),), (symbol("2"),)), symbol("3")))
        # Scripts behind a fraction belong to the fraction, not to its last argument.
        self.assertEqual(parse("@frac12^3"), (item("frac", (symbol("1"),), (symbol("2"),), above=(symbol("3"),)),))

    def test_grids_of_all_sizes(self):
        for many, wide in itertools.product(range(1, 7), range(1, 7)):
            text = "@grid{" + "~".join(["&".join("a" * wide)] * many) + "}"
            self.assertEqual(parse(text), (item("grid", ((A,) * wide,) * many),))
            self.assertEqual(text_of(parse(text)), text)

    def test_nested_grids_and_fences(self):
        inner = "@grid{a&b~&}"
        text = "@grid{@left(" + inner + "@right)&{" + inner + "}}"
        self.assertEqual(text_of(parse(text)), text)
        self.assertEqual(len(rows_of(parse(text))), 1 + 2 + 2 + 8)


class Writing(unittest.TestCase):

    def test_all_pairs_of_tokens_read_back(self):
        pieces = ("a", "z", "A", "1", "'", "@a", "@zz", "@frac{}{}", "@frac{a}{@a}", "@root{a}",
                  "@left a@right b", "@left@a a@right@a ", "@left.@right.", "@grid{a&@a}", "a^{@a}", "@a_{a}")
        for parts in itertools.product(pieces, repeat=3):
            formula = parse(" ".join(parts))
            text = text_of(formula)
            self.assertEqual(parse(text), formula)
            self.assertEqual(text_of(parse(text)), text)
            self.assertEqual(text, expected_blanks(" ".join(split(" ".join(parts)))))

    def test_blank_behind_commands_ahead_of_letters_only(self):
        cases = (("@a a", "@a a"), ("@a A", "@aA"), ("@a 1", "@a1"), ("@a @a", "@a@a"), ("@a {a}", "@a{a}"),
                 ("@left a a@right a a", "@left aa@right aa"), ("@left@a a@right@a a", "@left@a a@right@a a"),
                 ("@left A a@right A a", "@leftAa@rightAa"), ("@a ^ b", "@a^{b}"), ("@frac a @a", "@frac{a}{@a}"),
                 ("@grid{@a & a}", "@grid{@a&a}"), ("@grid{@a ~ a}", "@grid{@a~a}"), ("@root a a", "@root{a}a"))
        for text, wanted in cases:
            self.assertEqual(text_of(parse(text)), wanted)


class Rows(unittest.TestCase):

    def test_rows_in_preorder(self):
        formula = parse("a_{1{2}}^{3}@frac{4}{5}_6^7@left(8@root 9@right)@grid{A&B~C&D^E}F")
        texts = [text_of(row) for row in rows_of(formula)]
        self.assertEqual(texts[0], text_of(formula))
        wanted = ["1{2}", "2", "3", "4", "5", "6", "7", "8@root{9}", "9", "A", "B", "C", "D^{E}", "E"]
        self.assertEqual(texts[1:], wanted)

    def test_nucleus_ahead_of_subscript_ahead_of_superscript(self):
        for nucleus in ("{1}", "@root 1", "@left.1@right.", "@grid{1}"):
            texts = [text_of(row) for row in rows_of(parse(nucleus + "^{3{4}}_2"))]
            self.assertEqual(texts[1:], ["1", "2", "3{4}", "4"])

    def test_empty_rows_count(self):
        self.assertEqual(rows_of(()), [()])
        self.assertEqual(rows_of(parse("a_{}^{}@frac{}{}")), [parse("a_{}^{}@frac{}{}"), (), (), (), ()])

    def test_each_list_is_new(self):
        formula = parse("a^b")
        rows = rows_of(formula)
        rows.clear()
        self.assertEqual(rows_of(formula), [formula, B])


def split(text):
    """The tokens of a text that has no fault."""
    tokens = []
    for sign in text:
        if tokens and tokens[-1][0] == "@" and sign in SIGNS[:26]:
            tokens[-1] += sign
        else:
            tokens.append(sign)
    return [token for token in tokens if token != " "]


def expected_blanks(text):
    """A normal text out of tokens with blanks between: the blank stays behind commands ahead of letters."""
    words = text.split(" ")
    out = words[0]
    for left, right in zip(words, words[1:]):
        out += (" " if left[0] == "@" and right[0].islower() else "") + right
    return out


class Split(unittest.TestCase):

    def test_split_keeps_all_but_blanks(self):
        for text, _ in samples.FORMULAS:
            self.assertEqual("".join(split(text)), text.replace(" ", ""))


if __name__ == "__main__":
    unittest.main()
