"""Papers: they show that breaks cost least, or that others cost less, so that a judge need not search.

Places are named by their numbers, from 0. Whatever a paper holds is compared only when it is
known to be an integer, a string or None itself: nothing else can be trusted to compare quietly.
"""

from mathgalley.breaking import Ruler, best_breaks, check_settings


def judge_lines(font, formula, settings, paper):
    """Whether a paper on all breaks of a formula is taken."""
    check_settings(settings)
    ruler = Ruler(font, formula)
    if is_paper(paper, "least", 3):
        cost = claimed_cost(ruler, settings, paper[1])
        return cost is not None and are_bounds(ruler, settings, paper[2], cost)
    if is_paper(paper, "none", 2):
        return leads_nowhere(ruler, settings, paper[1])
    return False


def judge_breaks(font, formula, settings, breaks, paper):
    """Whether a paper on given breaks of a formula is taken."""
    check_settings(settings)
    ruler = Ruler(font, formula)
    ruler.check_breaks(breaks)
    cost = ruler.cost(settings, breaks)
    if cost is None:
        return False
    if is_paper(paper, "least", 2):
        return are_bounds(ruler, settings, paper[1], cost)
    if is_paper(paper, "better", 2):
        other = claimed_cost(ruler, settings, paper[1])
        return other is not None and other < cost
    return False


def explain_lines(font, formula, settings):
    """A paper on all breaks of a formula that is taken."""
    check_settings(settings)
    ruler = Ruler(font, formula)
    costs = least_costs(ruler, settings)
    breaks = best_breaks(ruler, settings)
    if breaks is None:
        return ("none", tuple([number for number, cost in enumerate(costs) if cost is not None]))
    return ("least", breaks, costs)


def explain_breaks(font, formula, settings, breaks):
    """A paper on given breaks of a formula that is taken; None if they do not fit."""
    check_settings(settings)
    ruler = Ruler(font, formula)
    ruler.check_breaks(breaks)
    cost = ruler.cost(settings, breaks)
    if cost is None:
        return None
    best = best_breaks(ruler, settings)
    if ruler.cost(settings, best) < cost:
        return ("better", best)
    return ("least", least_costs(ruler, settings))


def is_paper(value, word, many):
    """Whether value is a tuple of many members with a word ahead."""
    return type(value) == tuple and len(value) == many and type(value[0]) == str and value[0] == word


def are_integers(value):
    return type(value) == tuple and all([type(number) == int for number in value])


def are_costs(value):
    return type(value) == tuple and all([cost is None or type(cost) == int for cost in value])


def claimed_cost(ruler, settings, value):
    """The cost of what a paper claims to be breaks that fit, or None if they are not."""
    if not are_integers(value) or not ruler.are_breaks(value):
        return None
    return ruler.cost(settings, value)


def steps_from(ruler, settings, number):
    """A list of (later place, cost) for the lines from a place to the item ahead of a later one, if they fit."""
    places = ruler.places()
    first = places[number]
    steps = []
    for later in range(number + 1, len(places)):
        stop = places[later] - 1
        if ruler.line_fits(settings, first, stop):
            steps.append((later, ruler.line_cost(settings, first, stop)))
    return steps


def can_end(ruler, settings, number):
    """Whether the line from a place to the last item fits."""
    return ruler.line_fits(settings, ruler.places()[number], ruler.last)


def are_bounds(ruler, settings, value, goal):
    """Whether value are costs that are bounds for a goal."""
    if not are_costs(value) or len(value) != len(ruler.places()) or value[0] != 0:
        return False
    return all([is_bound(ruler, settings, value, number, goal) for number in range(len(value))])


def is_bound(ruler, settings, costs, number, goal):
    """Whether nothing that follows a place belies its cost."""
    cost = costs[number]
    if cost is None:
        return True
    if goal > cost and can_end(ruler, settings, number):
        return False
    steps = steps_from(ruler, settings, number)
    return all([costs[later] is not None and costs[later] <= cost + step for later, step in steps])


def leads_nowhere(ruler, settings, value):
    """Whether value are numbers of places, 0 among them, from which no lines lead on or to the end."""
    if not are_integers(value) or 0 not in value:
        return False
    reached = sorted(set(value))
    if reached[0] < 0 or reached[-1] >= len(ruler.places()):
        return False
    return all([is_closed(ruler, settings, reached, number) for number in reached])


def is_closed(ruler, settings, reached, number):
    """Whether all lines from a place that fit lead to places in reached, and none to the end."""
    if can_end(ruler, settings, number):
        return False
    return all([later in reached for later, _ in steps_from(ruler, settings, number)])


def least_costs(ruler, settings):
    """The tuple of the least cost of the lines ahead of each place, None where no lines that fit lead."""
    many = len(ruler.places())
    costs = [0] + [None] * (many - 1)
    for number in range(many):
        if costs[number] is not None:
            for later, step in steps_from(ruler, settings, number):
                cost = costs[number] + step
                if costs[later] is None or cost < costs[later]:
                    costs[later] = cost
    return tuple(costs)
