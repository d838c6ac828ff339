"""Formulas and fonts of many kinds, chosen by numbers: the same number gives the same one."""

import random

from mathgalley.fonts import Font
from mathgalley.sources import rows_of, text_of

CLASSES = ("ord", "op", "bin", "rel", "open", "close", "punct")
# Two symbols of each class; the second one of ord is the sign of radicals.
NAMES = ("x", "@root", "@sum", "@lim", "+", "-", "=", "<", "(", "[", ")", "]", ",", ";", "y", ".")
KINDS = ("ord", "ord", "op", "op", "bin", "bin", "rel", "rel", "open", "open", "close", "close", "punct", "punct",
         "ord", "punct")
SHOWN = [name for name in NAMES if name != "@root"]
LIMITS = ((0, 200), (1, 50), (0, 100), (0, 300), (0, 200), (0, 200), (0, 200), (1, 200))


def font_of(measures, lengths):
    """A font with all NAMES; measures is called for each of their measures."""
    return Font(tuple((name, kind, measures(), measures(), measures()) for name, kind in zip(NAMES, KINDS)), lengths)


def fonts():
    """A list of fonts: small, great and odd ones, and ones with measures or lengths at their limits."""
    chooser = random.Random(3)
    least = tuple(limits[0] for limits in LIMITS)
    greatest = tuple(limits[1] for limits in LIMITS)
    found = []
    for lengths in (least, greatest, (4, 2, 2, 6, 2, 4, 6, 5)):
        found.append(font_of(lambda: 0, lengths))
        found.append(font_of(lambda: 1000, lengths))
        found.append(font_of(lambda: chooser.randint(0, 20), lengths))
    for most in (3, 30, 1000):
        for _ in range(4):
            lengths = tuple(chooser.randint(low, min(high, low + most)) for low, high in LIMITS)
            found.append(font_of(lambda: chooser.choice((0, chooser.randint(0, most))), lengths))
    return found


class Chooser:
    """Chooses formulas; deep is how deep rows may still be nested."""

    def __init__(self, number, shown=None):
        self.random = random.Random(number)
        self.shown = SHOWN if shown is None else shown

    def formula(self, most=6, deep=3):
        """A formula within the limits of reading."""
        while True:
            row = self.row(most, deep)
            if len(text_of(row)) <= 400 and sum(len(inner) for inner in rows_of(row)) <= 80:
                return row

    def row(self, most, deep):
        return tuple(self.item(deep) for _ in range(self.random.randint(0, most)))

    def item(self, deep):
        below = self.row(2, deep - 1) if deep and self.random.random() < 0.25 else None
        above = self.row(2, deep - 1) if deep and self.random.random() < 0.25 else None
        return (self.nucleus(deep), below, above)

    def nucleus(self, deep):
        kinds = ["symbol"] * 5
        if deep:
            kinds += ["group", "frac", "root", "fence", "grid"]
        kind = self.random.choice(kinds)
        if kind == "symbol":
            return (kind, self.random.choice(self.shown))
        if kind == "frac":
            return (kind, self.row(3, deep - 1), self.row(3, deep - 1))
        if kind == "fence":
            delimiters = [None] + [name for name in self.shown if name != "."]
            return (kind, self.random.choice(delimiters), self.random.choice(delimiters), self.row(3, deep - 1))
        if kind == "grid":
            rows, columns = self.random.randint(1, 3), self.random.randint(1, 3)
            return (kind, tuple(tuple(self.row(1, deep - 1) for _ in range(columns)) for _ in range(rows)))
        return (kind, self.row(3, deep - 1))


def formulas(count, most=6, deep=3):
    """A list of formulas, each chosen by its place in the list."""
    return [Chooser(number).formula(most, deep) for number in range(count)]
