"""Judges of papers by the words of points 23 to 25, and what papers claim, by a search; for tests only."""

from drawing import Drawing
from lines import all_breaks, line_widths, possible


def is_number(value):
    return isinstance(value, int) and value is not True and value is not False


class Case:
    """A formula that is broken by settings, with all of its possible breaks."""

    def __init__(self, font, formula, settings):
        self.settings = settings
        self.widths = dict(line_widths(font, formula))
        self.widths[0, -1] = 0
        self.last = len(formula) - 1
        self.classes = Drawing(font).classes(formula)
        self.stops = possible(font, formula)
        self.places = (0,) + tuple(stop + 1 for stop in self.stops)

    def fits(self, first, last):
        return self.widths[first, last] <= self.settings[0]

    def line_cost(self, first, last):
        penalty = {"rel": self.settings[1], "bin": self.settings[2]}[self.classes[last]]
        return (self.settings[0] - self.widths[first, last]) ** 2 + penalty

    def cost(self, breaks):
        """The cost of breaks, or None if they do not fit."""
        first, total = 0, 0
        for stop in breaks:
            if not self.fits(first, stop):
                return None
            total += self.line_cost(first, stop)
            first = stop + 1
        return total if self.fits(first, self.last) else None

    def every(self):
        return all_breaks(self.stops)

    def least(self):
        """The least cost of all breaks that fit, or None if none do."""
        return min([cost for cost in map(self.cost, self.every()) if cost is not None], default=None)

    # Point 23

    def fitting(self, value):
        """The cost of value, or None if it is no breaks or these do not fit."""
        if not isinstance(value, tuple) or not all(is_number(stop) for stop in value):
            return None
        return self.cost(value) if value in self.every() else None

    def bounds(self, costs, goal):
        if not isinstance(costs, tuple) or len(costs) != len(self.places):
            return False
        if not all(cost is None or is_number(cost) for cost in costs) or costs[0] != 0:
            return False
        for number, place in enumerate(self.places):
            if costs[number] is None:
                continue
            if self.fits(place, self.last) and not goal <= costs[number]:
                return False
            for later in range(number + 1, len(self.places)):
                ahead = self.places[later] - 1
                if self.fits(place, ahead):
                    if costs[later] is None or costs[later] > costs[number] + self.line_cost(place, ahead):
                        return False
        return True

    # Points 24 and 25

    def takes(self, paper):
        """What judge_lines has to return."""
        if not isinstance(paper, tuple):
            return False
        if len(paper) == 3 and isinstance(paper[0], str) and paper[0] == "least":
            cost = self.fitting(paper[1])
            return cost is not None and self.bounds(paper[2], cost)
        if len(paper) == 2 and isinstance(paper[0], str) and paper[0] == "none":
            return self.closed(paper[1])
        return False

    def closed(self, reached):
        if not isinstance(reached, tuple) or not all(is_number(number) for number in reached):
            return False
        if 0 not in reached or not all(number in range(len(self.places)) for number in reached):
            return False
        for number in reached:
            place = self.places[number]
            if self.fits(place, self.last):
                return False
            for later in range(number + 1, len(self.places)):
                if self.fits(place, self.places[later] - 1) and later not in reached:
                    return False
        return True

    def takes_on(self, breaks, paper):
        """What judge_breaks has to return."""
        cost = self.cost(breaks)
        if cost is None or not isinstance(paper, tuple) or len(paper) != 2 or not isinstance(paper[0], str):
            return False
        if paper[0] == "least":
            return self.bounds(paper[1], cost)
        if paper[0] == "better":
            other = self.fitting(paper[1])
            return other is not None and other < cost
        return False


def altered_tuples(values):
    """Tuples that differ from a tuple of integers and Nones in one place, or in their lengths."""
    values = tuple(values)
    found = [values + (0,), values + (None,), values + values[-1:], (0,) + values, (), list(values), None]
    for k, value in enumerate(values):
        others = [None, 0, 1, True, False, "0", (value,), [value]]
        if value is not None:
            others += [value + 1, value - 1, -value, 2 * value + 1, float(value), str(value)]
        found += [values[:k] + (other,) + values[k + 1:] for other in others]
        found.append(values[:k] + values[k + 1:])
    return found


def altered(paper):
    """Papers that differ from a paper in one place: another word, another length, one of its tuples altered."""
    words = ["least", "none", "better", "", "Least", "most", None, 0, ("least",), b"least", ["none"]]
    found = [(word,) + paper[1:] for word in words]
    found += [paper + ((),), paper + ((0,),), paper[:-1], paper[:1], paper[1:], (), list(paper), (paper,)]
    for k in range(1, len(paper)):
        found += [paper[:k] + (values,) + paper[k + 1:] for values in altered_tuples(paper[k])]
    if len(paper) == 3:
        found += [(paper[0], paper[2], paper[1]), (paper[0], paper[1]), (paper[0], paper[2])]
    return found
