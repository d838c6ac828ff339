"""Fonts: the measures of symbols, and the lengths for setting formulas."""

from mathgalley.errors import BadFont, UnknownSymbol
from mathgalley.tokens import is_symbol

CLASSES = ("op", "ord", "bin", "rel", "open", "close", "punct")
ROOT_SIGN = "@root"
MOST_SYMBOLS = 60
MOST_MEASURE = 1000

# The least and the greatest axis, rule, gap, shift, thin, medium, thick and step.
LENGTH_LIMITS = ((0, 200), (1, 50), (0, 100), (0, 300), (0, 200), (0, 200), (0, 200), (1, 200))
AXIS = 0
RULE = 1
GAP = 2
SHIFT = 3
THIN = 4
THICK = 6
STEP = 7


def scaled(number, style):
    """A number scaled to a style."""
    if style == 2:
        return 7 * number // 10
    if style == 3:
        return number // 2
    return number


class Font:
    """Symbols with their classes and measures, and the lengths (axis, rule, gap, .., step)."""

    def __init__(self, symbols, lengths):
        if not are_symbols(symbols) or not are_lengths(lengths):
            raise BadFont("these are no symbols and lengths of a font")
        self.symbols = symbols
        self.lengths = lengths
        self._entries = {entry[0]: entry for entry in symbols}

    def __eq__(self, other):
        return isinstance(other, Font) and self.symbols == other.symbols and self.lengths == other.lengths

    def __len__(self):
        return len(self.symbols)

    def class_of(self, name):
        """The class of a symbol."""
        return self._entry(name)[1]

    def metrics(self, name, style):
        """The scaled (width, height, depth) of a symbol."""
        width, height, depth = self._entry(name)[2:]
        return (scaled(width, style), scaled(height, style), scaled(depth, style))

    def stretched(self, name, style, length):
        """The length of a symbol when it is stretched to at least a length."""
        _, height, depth = self.metrics(name, style)
        own = height + depth
        if own >= length:
            return own
        step = length_of(self, STEP, style)
        steps = (length - own + step - 1) // step
        return own + steps * step

    def _entry(self, name):
        if name not in self._entries:
            raise UnknownSymbol(name)
        return self._entries[name]


def length_of(font, which, style):
    """One of the lengths of a font, scaled to a style."""
    length = scaled(font.lengths[which], style)
    return max(1, length) if which in (RULE, STEP) else length


def are_symbols(value):
    """Whether value may be the symbols of a font."""
    if not isinstance(value, tuple) or not 1 <= len(value) <= MOST_SYMBOLS:
        return False
    if not all([is_entry(entry) for entry in value]):
        return False
    return len({entry[0] for entry in value}) == len(value)


def is_entry(value):
    """Whether value may be one of the symbols of a font."""
    if not isinstance(value, tuple) or len(value) != 5:
        return False
    name, kind, width, height, depth = value
    if not isinstance(name, str) or not (is_symbol(name) or name == ROOT_SIGN):
        return False
    return kind in CLASSES and all([is_integer(n, 0, MOST_MEASURE) for n in (width, height, depth)])


def are_lengths(value):
    """Whether value may be the lengths of a font."""
    if not isinstance(value, tuple) or len(value) != len(LENGTH_LIMITS):
        return False
    return all([is_integer(n, least, most) for n, (least, most) in zip(value, LENGTH_LIMITS)])


def is_integer(value, least, most):
    """Whether value is an integer, not True or False, from least to most."""
    return isinstance(value, int) and not isinstance(value, bool) and least <= value <= most
