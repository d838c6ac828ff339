"""Lines, breaks and costs by the words of points 21 and 22, and a search through all breaks, for tests only."""

import itertools

from chosen import Chooser, fonts
from drawing import Drawing, space

FONTS = fonts()
GREATEST = 100000
NO_SETTINGS = (
    None, True, 0, "", "abc", b"abc", (), (1,), (1, 2), (1, 2, 3, 4), [1, 2, 3], {}, {1: 1, 2: 2, 3: 3},
    (-1, 0, 0), (0, -1, 0), (0, 0, -1), (GREATEST + 1, 0, 0), (0, GREATEST + 1, 0), (0, 0, GREATEST + 1),
    (True, 0, 0), (0, False, 0), (0, 0, True), (1.0, 0, 0), (0, "1", 0), (0, 0, None), ((1,), 2, 3), (10 ** 30, 0, 0),
)


def line_widths(font, formula):
    """For each pair of indices the width of this line, straight from the sizes of the items."""
    drawing = Drawing(font)
    widths = [drawing.item_size(item, 1)[0] for item in formula]
    classes = drawing.classes(formula)
    spaces = [space(font, left, right, 1) for left, right in zip(classes, classes[1:])]
    return {
        (first, last): sum(widths[first:last + 1]) + sum(spaces[first:last])
        for first in range(len(formula)) for last in range(first, len(formula))
    }


def possible(font, formula):
    classes = Drawing(font).classes(formula)
    return tuple(k for k, kind in enumerate(classes[:-1]) if kind in ("bin", "rel"))


def cut(formula, breaks):
    ends = list(breaks) + [len(formula) - 1]
    return list(zip([0] + [end + 1 for end in ends[:-1]], ends))


def plain_cost(font, formula, settings, breaks):
    """The cost by the words of point 22, or None."""
    widths = line_widths(font, formula)
    classes = Drawing(font).classes(formula)
    lines = cut(formula, breaks)
    if formula and max(widths[line] for line in lines) > settings[0]:
        return None
    return sum((settings[0] - widths[line]) ** 2 + settings[1 if classes[line[1]] == "rel" else 2]
               for line in lines[:-1])


def all_breaks(stops):
    return sorted(breaks for many in range(len(stops) + 1) for breaks in itertools.combinations(stops, many))


def searched(font, formula, settings):
    """The best breaks by a search through all of them."""
    best = None
    for breaks in all_breaks(possible(font, formula)):
        cost = plain_cost(font, formula, settings, breaks)
        if cost is not None and (best is None or cost < best[0]):
            best = (cost, breaks)
    return None if best is None else best[1]


class RowChooser(Chooser):
    """Chooses formulas with many breaks in their outermost rows."""

    def formula(self, most=6, deep=3):
        row = []
        for _ in range(self.random.randint(0, most)):
            row += [self.item(deep), self.random.choice(("+", "-", "=", "<", ",", "(", "y"))]
        items = [part if isinstance(part, tuple) else (("symbol", part), None, None) for part in row]
        return tuple(items[:self.random.randint(0, len(items))])


def some(count, most=4, deep=1):
    for number in range(count):
        yield FONTS[number % len(FONTS)], RowChooser(number).formula(most, deep)


def some_settings(font, formula, number):
    widths = sorted(line_widths(font, formula).values()) or [0]
    for width in (widths[0], widths[len(widths) // 2], widths[len(widths) * 2 // 3], widths[-1]):
        for penalties in ((0, 0), (number % 7, number % 5), (100, 5000), (GREATEST, 0)):
            yield (min(width, GREATEST), *penalties)
