"""Formulas, texts and fonts that several tests use."""


def symbol(name, below=None, above=None):
    return (("symbol", name), below, above)


def item(*nucleus, below=None, above=None):
    return (nucleus, below, above)


A = (symbol("a"),)
B = (symbol("b"),)

# Pairs of a normal text and its formula.
FORMULAS = [
    ("", ()),
    ("a", A),
    ("ab", A + B),
    ("@alpha", (symbol("@alpha"),)),
    ("@alpha a", (symbol("@alpha"), symbol("a"))),
    ("@alphaA", (symbol("@alpha"), symbol("A"))),
    ("@alpha1a", (symbol("@alpha"), symbol("1"), symbol("a"))),
    ("{}", (item("group", ()),)),
    ("{a}", (item("group", A),)),
    ("{{a}b}", (item("group", (item("group", A), symbol("b"))),)),
    ("@frac{a}{b}", (item("frac", A, B),)),
    ("@frac{}{}", (item("frac", (), ()),)),
    ("@root{ab}", (item("root", A + B),)),
    ("@root{}", (item("root", ()),)),
    ("@left(a@right)", (item("fence", "(", ")", A),)),
    ("@left.@right.", (item("fence", None, None, ()),)),
    ("@left..@right.", (item("fence", None, None, (symbol("."),)),)),
    ("@left[@right.a", (item("fence", "[", None, ()), symbol("a"))),
    ("@left@lbrace a@right@rbrace b",
     (item("fence", "@lbrace", "@rbrace", A), symbol("b"))),
    ("@left ab@right ab", (item("fence", "a", "a", B), symbol("b"))),
    ("@grid{}", (item("grid", (((),),)),)),
    ("@grid{a}", (item("grid", ((A,),)),)),
    ("@grid{a&b}", (item("grid", ((A, B),)),)),
    ("@grid{a~b}", (item("grid", ((A,), (B,))),)),
    ("@grid{&a~b&}", (item("grid", (((), A), (B, ()))),)),
    ("@grid{&&&&&~&&&&&~&&&&&~&&&&&~&&&&&~&&&&&}", (item("grid", (((),) * 6,) * 6),)),
    ("a_{b}", (symbol("a", below=B),)),
    ("a^{b}", (symbol("a", above=B),)),
    ("a_{b}^{a}", (symbol("a", below=B, above=A),)),
    ("a_{}^{}", (symbol("a", below=(), above=()),)),
    ("{a}_{b}^{a}", (item("group", A, below=B, above=A),)),
    ("@frac{a}{b}_{b}^{a}", (item("frac", A, B, below=B, above=A),)),
    ("@root{b}_{b}^{a}", (item("root", B, below=B, above=A),)),
    ("@left(b@right)_{b}^{a}", (item("fence", "(", ")", B, below=B, above=A),)),
    ("@grid{b}_{b}^{a}", (item("grid", ((B,),), below=B, above=A),)),
    ("@sum_{b}^{a}a", (symbol("@sum", below=B, above=A), symbol("a"))),
    ("a^{b_{a^{b}}}",
     (symbol("a", above=(symbol("b", below=(symbol("a", above=B),)),)),)),
    ("@a@b@c a", (symbol("@a"), symbol("@b"), symbol("@c"), symbol("a"))),
    ("@abcdefgh a", (symbol("@abcdefgh"), symbol("a"))),
]

SIGNS = "abcdefghijklmnopqrstuvwxyzABCDEFGHIJKLMNOPQRSTUVWXYZ0123456789+-*/=<>()[],;:!?.'"

LENGTHS = (4, 2, 2, 6, 2, 4, 6, 5)
SYMBOLS = (
    ("x", "ord", 10, 8, 0),
    ("2", "ord", 8, 10, 0),
    ("+", "bin", 12, 6, 2),
    ("@sum", "op", 15, 13, 7),
    ("=", "rel", 0, 0, 0),
    ("(", "open", 5, 11, 5),
    (")", "close", 5, 11, 5),
    (",", "punct", 3, 1, 2),
    ("@root", "ord", 9, 9, 3),
)
