"""Formulas broken into lines, with the least cost."""

from mathgalley.boxes import placed_rows
from mathgalley.errors import BadBreaks, BadSettings
from mathgalley.fonts import is_integer
from mathgalley.spacing import classes_of, space_between

LINE_STYLE = 1
MOST_SETTING = 100000


class Ruler:
    """Measures the lines of a formula; items are named by their indices in its outermost row."""

    def __init__(self, font, formula):
        edges = placed_rows(font, formula, LINE_STYLE)[0][4]
        kinds = classes_of(font, formula)
        self.kinds = kinds
        self.lefts = edges[:-1]
        self.rights = [edges[k + 1] - space_behind(font, kinds, k) for k in range(len(kinds))]
        self.last = len(kinds) - 1
        self.stops = tuple([k for k in range(self.last) if kinds[k] in ("bin", "rel")])

    def places(self):
        """The list of the indices of the items with which a line can begin."""
        return [0] + [stop + 1 for stop in self.stops]

    def line_width(self, first, last):
        """The width of the line of the items first to last; 0 if there are none."""
        return self.rights[last] - self.lefts[first] if first <= last else 0

    def line_fits(self, settings, first, last):
        return self.line_width(first, last) <= settings[0]

    def line_cost(self, settings, first, stop):
        """The cost of a line behind which there is another one."""
        width, behind_rel, behind_bin = settings
        penalty = behind_rel if self.kinds[stop] == "rel" else behind_bin
        return (width - self.line_width(first, stop)) ** 2 + penalty

    def lines(self, breaks):
        """The list of the pairs (first, last) of the lines between breaks."""
        firsts = [0] + [stop + 1 for stop in breaks]
        return list(zip(firsts, [*breaks, self.last]))

    def cost(self, settings, breaks):
        """The cost of breaks, or None if they do not fit."""
        lines = self.lines(breaks)
        if not all([self.line_fits(settings, first, last) for first, last in lines]):
            return None
        return sum([self.line_cost(settings, first, last) for first, last in lines[:-1]])

    def are_breaks(self, value):
        if not isinstance(value, tuple) or not all([self._is_stop(stop) for stop in value]):
            return False
        return all([left < right for left, right in zip(value, value[1:])])

    def check_breaks(self, value):
        """Raise BadBreaks for what are no breaks."""
        if not self.are_breaks(value):
            raise BadBreaks("these are no ascending indices of items behind which a break is possible")

    def _is_stop(self, value):
        return is_integer(value, 0, self.last) and value in self.stops


def space_behind(font, kinds, k):
    """The space behind item number k of a row in lines."""
    if k + 1 == len(kinds):
        return 0
    return space_between(font, kinds[k], kinds[k + 1], LINE_STYLE)


def check_settings(value):
    """Raise BadSettings for what are no settings."""
    if not isinstance(value, tuple) or len(value) != 3:
        raise BadSettings("settings are a tuple of three integers")
    if not all([is_integer(number, 0, MOST_SETTING) for number in value]):
        raise BadSettings("a setting is no integer, or beyond its limits")


def chances(font, formula):
    """The tuple of the indices of the items behind which a break is possible."""
    return Ruler(font, formula).stops


def lines_of(font, formula, breaks):
    """The tuple of the lines (first, last, width) into which breaks cut a formula."""
    ruler = Ruler(font, formula)
    ruler.check_breaks(breaks)
    return tuple([(first, last, ruler.line_width(first, last)) for first, last in ruler.lines(breaks)])


def cost_of(font, formula, settings, breaks):
    """The cost of breaks, or None if they do not fit."""
    check_settings(settings)
    ruler = Ruler(font, formula)
    ruler.check_breaks(breaks)
    return ruler.cost(settings, breaks)


def break_lines(font, formula, settings):
    """The best breaks of a formula, or None if none fit."""
    check_settings(settings)
    return best_breaks(Ruler(font, formula), settings)


def best_breaks(ruler, settings):
    """The best breaks of the formula that a ruler measures, or None if none fit."""
    best = {}
    for first in reversed(ruler.places()):
        best[first] = best_from(ruler, settings, first, best)
    found = best[0]
    return None if found is None else found[1]


def best_from(ruler, settings, first, best):
    """The least cost of the lines from an item on with its first breaks, or None if no breaks fit.

    best has the same for the items with which later lines can begin.
    """
    found = []
    if ruler.line_fits(settings, first, ruler.last):
        found.append((0, ()))
    for stop in ruler.stops:
        if stop >= first and best[stop + 1] is not None and ruler.line_fits(settings, first, stop):
            cost, breaks = best[stop + 1]
            found.append((cost + ruler.line_cost(settings, first, stop), (stop, *breaks)))
    return min(found, default=None)
