"""Texts that are no formulas: SyntaxFault and its place (points 5 to 7)."""

import itertools
import unittest

import oracle
from mathgalley.errors import SyntaxFault
from mathgalley.sources import parse
from samples import FORMULAS, SIGNS
from test_sources import split

TOKENS = ("a", ".", "@b", "{", "}", "^", "_", "&", "~", "@frac", "@root", "@left", "@right", "@grid")


def fault_place(text):
    """The place of the fault of a text, or None."""
    try:
        parse(text)
    except SyntaxFault as fault:
        return fault.place
    return None


def joined(tokens):
    """A text of tokens with a blank behind each, and the places of the tokens and of the end."""
    places = []
    text = ""
    for token in tokens:
        places.append(len(text))
        text += token + " "
    return text, places + [len(text)]


class Faults(unittest.TestCase):

    def check(self, tokens):
        text, places = joined(tokens)
        at = oracle.fault_of(tokens)
        self.assertEqual(fault_place(text), None if at is None else places[at], text)

    def place(self, text, wanted):
        self.assertEqual(fault_place(text), wanted, text)

    def test_all_short_texts(self):
        for many in range(5):
            for tokens in itertools.product(TOKENS, repeat=many):
                self.check(tokens)

    def test_all_continuations_of_open_texts(self):
        starts = ("a ^ b", "a _ { } ^ b", "@frac { a", "@frac { } {", "@left ( a", "@left ( @right", "@grid { a & b",
                  "@grid { a ~ b", "@grid { a & b ~", "@grid { & & & & &", "@grid { ~ ~ ~ ~ ~", "{ @left . @grid {",
                  "@left ( { a }", "@grid { @grid { & ~", "@root { a ^ {", "@grid { { a }", "@grid { & ~ ^")
        for start in starts:
            for tail in itertools.product(TOKENS, repeat=3):
                self.check(tuple(start.split()) + tail)

    def test_changed_formulas(self):
        for text, _ in FORMULAS:
            tokens = split(text)
            for at in range(len(tokens) + 1):
                self.check(tokens[:at])
                self.check(tokens[:at] + tokens[at + 1:])
                for token in TOKENS:
                    self.check(tokens[:at] + [token] + tokens[at:])
                    self.check(tokens[:at] + [token] + tokens[at + 1:])

    def test_signs_that_are_no_tokens(self):
        known = SIGNS + "{}^_&~@ "
        others = [sign for sign in map(chr, range(0x180)) if sign not in known]
        for sign in others + ["\u03b1", "\u2212", "\u0661", "\U0001d44e"]:
            self.place(sign, 0)
            self.place("ab " + sign + "c", 3)
            self.place("{a" + sign, 2)
            self.place("@alpha" + sign, 6)
            self.place("@left" + sign, 5)
            self.place("a^" + sign, 2)

    def test_commands_that_are_no_tokens(self):
        for text, place in (("@", 0), ("a@", 1), ("@ a", 0), ("@A", 0), ("@1", 0), ("@@", 0), ("@a@", 2), ("@{", 0),
                            ("@abcdefghi", 0), ("x @abcdefghi", 2), ("@abcdefghijklm", 0), ("a^@abcdefghi", 2),
                            ("@leftright", 0), ("@fracfracf", 0), ("@left@abcdefghi", 5), ("@a-@", 3)):
            self.place(text, place)

    def test_the_first_fault_counts(self):
        for text, place in (("} #", 0), ("# }", 0), ("a^^@", 2), ("a^@^", 2), ("@frac}@", 5), ("@grid a @", 6)):
            self.place(text, place)

    def test_reserved_commands_out_of_place(self):
        for name in ("@frac", "@root", "@left", "@right", "@grid"):
            self.place("a^" + name, 2)
            self.place("@root" + name + " a", 5)
            self.place("@frac" + name, 5)
            self.place("@frac a" + name, 7)
            self.place("@left" + name, 5)
            self.place("@left(@right" + name, 12)
            self.place("@grid" + name, 5)
        self.place("@right", 0)
        self.place("a @right)", 2)
        self.place("{@right", 1)
        self.place("@left({@right)}", 7)
        self.place("@grid{@right", 6)

    def test_a_script_twice(self):
        for text, place in (("a^b^c", 3), ("a_b_c", 3), ("a^b_c^d", 5), ("a_b^c_d", 5), ("a_b^c^d", 5),
                            ("a^{}^{}", 4), ("{a^b}_c _", 8), ("a^b c^d ^", 8)):
            self.place(text, place)

    def test_a_script_without_nucleus(self):
        for text, place in (("^a", 0), (" _a", 1), ("{^a}", 1), ("a^{_a}", 3), ("@left(^", 6), ("@grid{^", 6),
                            ("@grid{a&_", 8), ("@grid{a~^", 8), ("@frac{^", 6), ("@frac^", 5), ("@root_", 5)):
            self.place(text, place)

    def test_seven_cells(self):
        self.place("@grid{&&&&&}", None)
        self.place("@grid{&&&&&&}", 11)
        self.place("@grid{a&b&c&d&e&f&g}", 17)
        self.place("@grid{&&&&&~&&&&&&}", 17)
        self.place("@grid{~~~~~}", None)
        self.place("@grid{~~~~~~}", 11)
        self.place("@grid{a~b~c~d~e~f~g}", 17)
        self.place("@grid{&~&~&~&~&~&~&}", 17)

    def test_tuples_that_are_not_alike_long(self):
        self.place("@grid{a&b~c}", 11)
        self.place("@grid{a&b~c~d&e}", 11)
        self.place("@grid{a~b&c}", 9)
        self.place("@grid{a&b~c&d&e}", 13)
        self.place("@grid{a&b~c&d~}", 14)

    def test_incomplete_texts(self):
        for text in ("{", "a^", "a_", "@frac", "@frac a", "@frac{a}", "@frac{a}{b", "@root", "@root{", "@left", "@left(",
                     "@left(a", "@left(a@right", "@grid", "@grid{", "@grid{a", "@grid{a&", "@grid{a~", "@grid{a&b~c",
                     "a^{b", "a^{b_", "{  ", "a^  ", "{" * 7):
            self.place(text, len(text))

    def test_a_delimiter_missing(self):
        for text, place in (("@left{a}@right)", 5), ("@left^", 5), ("@left(a@right}", 13), ("@left(a@right_", 13),
                            ("@left@right)", 5), ("@left(a)", 8), ("@left(a)}", 8), ("{@left(a}", 8), ("@left&", 5)):
            self.place(text, place)

    def test_more_behind_the_end(self):
        for text, place in (("}", 0), ("a}", 1), ("{}}", 2), ("a&b", 1), ("a~b", 1), ("@grid{a}}", 8),
                            ("@grid{{a&b}}", 8), ("@grid{a^{b~}}", 10), ("@left(&", 6)):
            self.place(text, place)


if __name__ == "__main__":
    unittest.main()
