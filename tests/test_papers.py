"""Papers (points 23 to 26): examples, altered papers, values that are no papers, errors."""

import itertools
import unittest

from judging import Case, altered, altered_tuples
from lines import NO_SETTINGS, searched, some, some_settings
from mathgalley.breaking import break_lines, cost_of
from mathgalley.errors import BadBreaks, BadSettings, UnknownSymbol
from mathgalley.fonts import Font
from mathgalley.papers import explain_breaks, explain_lines, judge_breaks, judge_lines
from mathgalley.sources import parse
from samples import LENGTHS, SYMBOLS

# x 10 wide, 2 8, + 12, = 0; medium 4, thick 6.
FONT = Font(SYMBOLS, LENGTHS)
# x, = and + all 3 wide, without spaces.
WIDE = Font((("=", "rel", 3, 0, 0), ("x", "ord", 3, 0, 0), ("+", "bin", 3, 0, 0)), (0, 1, 0, 0, 0, 0, 0, 1))
NARROW = Font((("=", "rel", 0, 0, 0), ("x", "ord", 3, 0, 0)), (0, 1, 0, 0, 0, 0, 0, 1))


class Quarrelsome:
    """Raises an error whatever it is asked."""

    def __eq__(self, other):
        raise RuntimeError("not to be compared")

    def __hash__(self):
        raise RuntimeError("not to be kept")

    def __bool__(self):
        raise RuntimeError("not to be tested")

    def __len__(self):
        raise RuntimeError("not to be measured")

    def __iter__(self):
        raise RuntimeError("not to be walked through")

    def __getitem__(self, key):
        raise RuntimeError("not to be read")

    __ne__ = __lt__ = __le__ = __gt__ = __ge__ = __eq__


class QuarrelsomeTuple(Quarrelsome, tuple):
    pass


class QuarrelsomeWord(Quarrelsome, str):
    pass


class QuarrelsomeNumber(Quarrelsome, int):
    pass


class Lying:
    """Raises an error when it is asked for its class."""

    @property
    def __class__(self):
        raise RuntimeError("not to be asked")


ODD = (
    Quarrelsome(), QuarrelsomeTuple((1, 2)), QuarrelsomeTuple(()), QuarrelsomeWord("least"), QuarrelsomeWord("none"),
    QuarrelsomeNumber(0), Lying(),
)
PLAIN = (
    None, True, False, 0, 1, -1, 10 ** 400, 1.5, float("nan"), 1j, "", "least", "none", "better", "least" * 2, b"",
    b"least", (), [], {}, set(), frozenset(), range(2), object(), int, len, Exception("least"), FONT, iter(()),
    bytearray(b"none"), memoryview(b"ab"), Ellipsis, NotImplemented,
)
NO_PAPERS = PLAIN + ODD


def no_papers():
    """Values that are no papers, for whatever formula, settings and breaks."""
    yield from NO_PAPERS
    for value in NO_PAPERS:
        for rest in ((), (value,), (value, value), ((),), ((), ()), ((0,),), ((), (0,))):
            for word in ("", "Least", "none ", "worse", None, 0, b"none", value):
                if type(word) is not str or word not in ("least", "none", "better"):
                    yield (word, *rest)
        for word in ("least", "none", "better"):
            yield (word,)
            yield (word, value, value, value)
            yield [word, value]
            yield {word: value}


def deep_tuple(depth):
    value = ()
    for _ in range(depth):
        value = (value,)
    return value


class Making(unittest.TestCase):

    def test_a_formula_without_items(self):
        for settings in ((0, 0, 0), (100000, 3, 7)):
            self.assertEqual(explain_lines(FONT, (), settings), ("least", (), (0,)))
            self.assertEqual(explain_breaks(FONT, (), settings, ()), ("least", (0,)))

    def test_no_possible_breaks(self):
        self.assertEqual(explain_lines(FONT, parse("x"), (10, 0, 0)), ("least", (), (0,)))
        self.assertEqual(explain_lines(FONT, parse("x"), (9, 0, 0)), ("none", (0,)))
        self.assertEqual(explain_breaks(FONT, parse("x"), (10, 0, 0), ()), ("least", (0,)))

    def test_the_kind_that_is_true(self):
        formula = parse("x+x=x")
        self.assertEqual(explain_lines(FONT, formula, (62, 5, 5))[:2], ("least", ()))
        self.assertEqual(explain_lines(FONT, formula, (46, 5, 5))[:2], ("least", (3,)))
        self.assertEqual(explain_lines(FONT, formula, (26, 5, 5))[:2], ("least", (1, 3)))
        self.assertEqual(explain_lines(FONT, formula, (25, 5, 5))[0], "none")
        self.assertEqual(explain_breaks(FONT, formula, (62, 5, 5), ())[0], "least")
        self.assertEqual(explain_breaks(FONT, formula, (62, 5, 5), (1,))[0], "better")
        self.assertEqual(explain_breaks(FONT, formula, (46, 5, 5), (3,))[0], "least")
        self.assertEqual(explain_breaks(FONT, formula, (46, 5, 5), (1, 3))[0], "better")

    def test_breaks_of_the_least_cost_need_not_be_the_best_ones(self):
        self.assertEqual(break_lines(NARROW, parse("x====x"), (3, 0, 0)), (1,))
        for breaks in ((1,), (2,), (3,), (4,)):
            self.assertEqual(explain_breaks(NARROW, parse("x====x"), (3, 0, 0), breaks)[0], "least")
        self.assertEqual(explain_breaks(NARROW, parse("x====x"), (3, 0, 0), (1, 2))[0], "better")

    def test_breaks_that_do_not_fit_have_no_paper(self):
        self.assertIsNone(explain_breaks(FONT, parse("x+x=x"), (46, 5, 5), ()))

    def test_papers_are_tuples_of_integers(self):
        for paper in (explain_lines(FONT, parse("x+x=x"), (46, 5, 5)), explain_lines(FONT, parse("x"), (1, 5, 5)),
                      explain_breaks(FONT, parse("x+x=x"), (46, 5, 5), (3,)),
                      explain_breaks(FONT, parse("x+x=x"), (62, 5, 5), (3,))):
            self.assertIs(type(paper), tuple)
            for part in paper[1:]:
                self.assertIs(type(part), tuple)
                self.assertTrue(all(number is None or type(number) is int for number in part))

    def test_what_is_made_is_taken(self):
        kinds = []
        for number, (font, formula) in enumerate(some(120)):
            for settings in some_settings(font, formula, number):
                paper = explain_lines(font, formula, settings)
                kinds.append(paper[0])
                self.assertTrue(judge_lines(font, formula, settings, paper))
                self.assertTrue(Case(font, formula, settings).takes(paper))
        self.assertGreater(kinds.count("least"), 200)
        self.assertGreater(kinds.count("none"), 200)

    def test_what_is_made_for_given_breaks_is_taken(self):
        kinds = []
        for number, (font, formula) in enumerate(some(200)):
            for settings in list(some_settings(font, formula, number))[number % 2::2]:
                case = Case(font, formula, settings)
                for breaks in case.every():
                    if case.cost(breaks) is not None:
                        paper = explain_breaks(font, formula, settings, breaks)
                        kinds.append(paper[0])
                        self.assertTrue(judge_breaks(font, formula, settings, breaks, paper))
                        self.assertTrue(case.takes_on(breaks, paper))
        self.assertGreater(kinds.count("least"), 100)
        self.assertGreater(kinds.count("better"), 100)

    def test_long_formulas(self):
        for text in ("x+" * 39 + "x", "=" * 80, "x=" * 40):
            for width in (0, 15, 16, 26, 60, 200, 1000, 100000):
                settings = (width, 7, 9)
                paper = explain_lines(FONT, parse(text), settings)
                self.assertTrue(judge_lines(FONT, parse(text), settings, paper))
                best = break_lines(FONT, parse(text), settings)
                self.assertEqual(paper[0], "none" if best is None else "least")
                if best is not None:
                    cost = cost_of(FONT, parse(text), settings, best)
                    self.assertEqual(cost_of(FONT, parse(text), settings, paper[1]), cost)
                    every = tuple(range(79)) if text[0] == "=" else tuple(range(1, len(text) - 1, 2))
                    other = explain_breaks(FONT, parse(text), settings, every)
                    if other is not None:
                        self.assertTrue(judge_breaks(FONT, parse(text), settings, every, other))


class JudgingAll(unittest.TestCase):
    """x+x=x in 30: lines of 26 (0, 1), 16 (2, 3) and 10 (4, 4) fit, and those of 46, 32 and 62 do not."""

    FORMULA = parse("x+x=x")
    SETTINGS = (30, 5, 3)

    def judge(self, *paper):
        return judge_lines(FONT, self.FORMULA, self.SETTINGS, paper)

    def test_least(self):
        # The costs of the lines are 4 * 4 + 3 and 14 * 14 + 5.
        self.assertIs(self.judge("least", (1, 3), (0, 19, 220)), True)

    def test_costs_may_not_be_too_great(self):
        self.assertIs(self.judge("least", (1, 3), (0, 20, 220)), False)
        self.assertIs(self.judge("least", (1, 3), (0, 19, 221)), False)
        self.assertIs(self.judge("least", (1, 3), (1, 19, 220)), False)

    def test_costs_may_be_smaller_where_no_goal_suffers(self):
        self.assertIs(self.judge("least", (1, 3), (0, 18, 220)), False)
        self.assertIs(self.judge("least", (1, 3), (0, 19, 219)), False)
        self.assertIs(self.judge("least", (1, 3), (-1, 19, 220)), False)
        # A single line fits; the cost of no other place is of any weight then.
        easy = (62, 5, 3)
        for cost in (0, 1, 16 ** 2 + 5, 16 ** 2 + 6, -1, -10 ** 30, 10 ** 30):
            paper = ("least", (), (0, cost, cost))
            self.assertIs(judge_lines(FONT, self.FORMULA, easy, paper), 0 <= cost <= 261, cost)
        self.assertIs(judge_lines(FONT, self.FORMULA, easy, ("least", (), (0, 36 ** 2 + 4, 0))), False)
        self.assertIs(judge_lines(FONT, self.FORMULA, easy, ("least", (), (0, 36 ** 2 + 3, 0))), True)
        self.assertIs(judge_lines(FONT, self.FORMULA, easy, ("least", (), (0, 36 ** 2 + 3, 16 ** 2 + 5))), True)
        self.assertIs(judge_lines(FONT, self.FORMULA, easy, ("least", (), (0, 36 ** 2 + 3, 16 ** 2 + 6))), False)

    def test_none_in_the_place_of_a_cost(self):
        self.assertIs(self.judge("least", (1, 3), (0, None, 220)), False)
        self.assertIs(self.judge("least", (1, 3), (0, 19, None)), False)
        self.assertIs(self.judge("least", (1, 3), (None, 19, 220)), False)
        for costs in ((0, None, None), (None, None, None), (0, 0, None), (None, 0, 0)):
            self.assertIs(judge_lines(FONT, self.FORMULA, (62, 5, 3), ("least", (), costs)), False)

    def test_none_in_a_place_that_no_line_leads_to(self):
        # x= is wider than 5, so that no line leads to its place, but then no breaks fit either.
        formula, settings = parse("x=x"), (5, 0, 0)
        for breaks in ((), (1,)):
            for costs in ((0, None), (0, 0), (0, 5)):
                self.assertIs(judge_lines(WIDE, formula, settings, ("least", breaks, costs)), False)
                self.assertIs(judge_breaks(WIDE, formula, settings, breaks, ("least", costs)), False)
        self.assertIs(judge_lines(WIDE, formula, settings, ("none", (0,))), True)

    def test_breaks_that_do_not_fit_or_are_none(self):
        for breaks in ((), (1,), (3,), (0,), (3, 1), (1, 1, 3), (1, 3, 3), (-1,), (4,), (5,), [1, 3], [], None,
                       (True, 3), (1, "3"), (1.0, 3), "13", 1, {1: 3}, ((1, 3),)):
            self.assertIs(self.judge("least", breaks, (0, 19, 220)), False, breaks)

    def test_breaks_that_fit_but_do_not_cost_least(self):
        for width in (62, 70, 1000):
            settings = (width, 5, 3)
            for breaks in ((1,), (3,), (1, 3)):
                cost = cost_of(FONT, self.FORMULA, settings, breaks)
                for costs in ((0, cost, cost), (0, 0, 0), (0, None, None), (0, (width - 26) ** 2 + 3, 0),
                              explain_lines(FONT, self.FORMULA, settings)[2], (cost, cost, cost)):
                    self.assertIs(judge_lines(FONT, self.FORMULA, settings, ("least", breaks, costs)), False)

    def test_other_lengths_and_words(self):
        for paper in (("least", (1, 3), (0, 19)), ("least", (1, 3), (0, 19, 220, 220)), ("least", (1, 3), ()),
                      ("least", (1, 3)), ("least", (0, 19, 220)), ("least", (1, 3), (0, 19, 220), ()),
                      ("none", (1, 3), (0, 19, 220)), ("better", (1, 3)), ("Least", (1, 3), (0, 19, 220)),
                      ((1, 3), (0, 19, 220)), ("least", (0, 19, 220), (1, 3)), ()):
            self.assertIs(self.judge(*paper), False, paper)
        self.assertIs(judge_lines(FONT, self.FORMULA, self.SETTINGS, ["least", (1, 3), (0, 19, 220)]), False)
        self.assertIs(self.judge("least", (1, 3), [0, 19, 220]), False)

    def test_true_and_false_are_no_numbers(self):
        self.assertIs(judge_lines(FONT, (), (0, 0, 0), ("least", (), (0,))), True)
        self.assertIs(judge_lines(FONT, (), (0, 0, 0), ("least", (), (False,))), False)
        self.assertIs(judge_lines(FONT, parse("x"), (9, 0, 0), ("none", (0,))), True)
        self.assertIs(judge_lines(FONT, parse("x"), (9, 0, 0), ("none", (False,))), False)
        self.assertIs(judge_lines(FONT, parse("=xx"), (9, 0, 0), ("none", (0, 1))), True)
        self.assertIs(judge_lines(FONT, parse("=xx"), (9, 0, 0), ("none", (0, True))), False)
        # One 1 in costs, where each line but a whole one costs 1.
        formula, settings = parse("x=x"), (7, 0, 0)
        self.assertIs(judge_lines(WIDE, formula, settings, ("least", (1,), (0, 1))), True)
        self.assertIs(judge_lines(WIDE, formula, settings, ("least", (1,), (0, True))), False)
        self.assertIs(judge_lines(WIDE, formula, settings, ("least", (True,), (0, 1))), False)

    def test_none(self):
        # =x+x=x in 25: only the first = fits ahead of another line, and x+ does not.
        formula = parse("=x+x=x")
        settings = (25, 0, 0)
        for reached in ((0, 1), (1, 0), (0, 1, 1, 0), (0, 0, 1)):
            self.assertIs(judge_lines(FONT, formula, settings, ("none", reached)), True, reached)
        for reached in ((), (0,), (1,), (0, 2), (0, 1, 2), (0, 1, 3), (0, 1, 2, 3), (0, 1, 4), (0, 1, -1),
                        (0, 1, -3), [0, 1], (0, 1, None), (0, 1, "1"), (0, 1.0), {0: 1}, "01", 0, None, (0, (1,)),
                        (0, 1, 10 ** 30)):
            self.assertIs(judge_lines(FONT, formula, settings, ("none", reached)), False, reached)

    def test_none_may_name_more_than_can_be_reached(self):
        # From the place behind xx= nothing leads on, and nothing leads there.
        formula, settings = parse("xx=xx=xx"), (6, 0, 0)
        self.assertEqual(explain_lines(WIDE, formula, settings), ("none", (0,)))
        self.assertIs(judge_lines(WIDE, formula, settings, ("none", (0, 1))), True)
        self.assertIs(judge_lines(WIDE, formula, settings, ("none", (0, 2))), False)
        for reached in ((0,), (0, 1), (0, 2), (2, 0), (0, 1, 2)):
            self.assertIs(judge_lines(WIDE, formula, (5, 0, 0), ("none", reached)), True)

    def test_none_with_numbers_of_no_places(self):
        # Counted from the end, -1 and -2 would be the places 1 and 0, from which nothing leads on either.
        formula, settings = parse("x=xx"), (5, 0, 0)
        for reached in ((0,), (0, 1), (1, 0)):
            self.assertIs(judge_lines(WIDE, formula, settings, ("none", reached)), True)
        for reached in ((0, -1), (-1, 0), (0, -2), (-2, -1), (0, 1, 2), (0, 2), (-2, 1), (0, 1, -1)):
            self.assertIs(judge_lines(WIDE, formula, settings, ("none", reached)), False)

    def test_none_where_breaks_fit(self):
        for width in (26, 30, 62):
            for many in range(1, 5):
                for reached in itertools.product(range(4), repeat=many):
                    settings = (width, 5, 3)
                    self.assertIs(judge_lines(FONT, self.FORMULA, settings, ("none", reached)), False)
        self.assertIs(judge_lines(FONT, (), (0, 0, 0), ("none", (0,))), False)


class JudgingGiven(unittest.TestCase):

    FORMULA = parse("x+x=x")

    def judge(self, settings, breaks, *paper):
        return judge_breaks(FONT, self.FORMULA, settings, breaks, paper)

    def test_least(self):
        self.assertIs(self.judge((30, 5, 3), (1, 3), "least", (0, 19, 220)), True)
        self.assertIs(self.judge((62, 5, 3), (), "least", (0, 0, 0)), True)
        for costs in ((0, 19, 219), (0, 19, 221), (0, 20, 220), (0, 19, None), (0, 19), (0, 19, 220, 0), [0, 19, 220],
                      (False, 19, 220), (1, 20, 221), (), None, 0):
            self.assertIs(self.judge((30, 5, 3), (1, 3), "least", costs), False, costs)

    def test_better(self):
        settings = (62, 5, 3)
        for breaks in ((1,), (3,), (1, 3)):
            self.assertIs(self.judge(settings, breaks, "better", ()), True)
        self.assertIs(self.judge(settings, (1, 3), "better", (3,)), True)
        self.assertIs(self.judge(settings, (1,), "better", (3,)), True)
        self.assertIs(self.judge(settings, (3,), "better", (1,)), False)
        for breaks in ((), (1,), (3,), (1, 3)):
            self.assertIs(self.judge(settings, breaks, "better", breaks), False)
            self.assertIs(self.judge(settings, (), "better", breaks), False)

    def test_better_that_costs_as_much(self):
        formula, settings = parse("x====x"), (3, 0, 0)
        for breaks, others in itertools.permutations(((1,), (2,), (3,), (4,)), 2):
            self.assertIs(judge_breaks(NARROW, formula, settings, breaks, ("better", others)), False)
            self.assertIs(judge_breaks(NARROW, formula, settings, breaks, ("better", (1, 2))), False)
            self.assertIs(judge_breaks(NARROW, formula, settings, (1, 2), ("better", others)), True)
        self.assertIs(judge_breaks(NARROW, parse("=="), (0, 0, 0), (0,), ("better", ())), False)
        self.assertIs(judge_breaks(NARROW, parse("=="), (0, 1, 0), (0,), ("better", ())), True)

    def test_better_that_does_not_fit_or_is_no_breaks(self):
        settings = (46, 5, 3)
        self.assertIs(self.judge(settings, (1, 3), "better", (3,)), True)
        self.assertIs(self.judge(settings, (1, 3), "better", ()), False)
        for others in ((0,), (4,), (-1,), (5,), (3, 3), (3, 1), [3], "3", 3, None, (3.0,), (True,), ("3",), {3: 3}):
            self.assertIs(self.judge(settings, (1, 3), "better", others), False, others)
        self.assertIs(self.judge(settings, (1, 3), "better", (3,), ()), False)
        self.assertIs(self.judge(settings, (1, 3), "Better", (3,)), False)
        self.assertIs(self.judge(settings, (1, 3), "better"), False)

    def test_nothing_is_taken_for_breaks_that_do_not_fit(self):
        for settings in ((45, 5, 3), (31, 5, 3), (25, 5, 3), (0, 0, 0)):
            for breaks in ((), (1,), (3,), (1, 3)):
                if cost_of(FONT, self.FORMULA, settings, breaks) is None:
                    for paper in (("better", ()), ("better", (1,)), ("better", (3,)), ("better", (1, 3)),
                                  ("least", (0, 0, 0)), ("least", (0, None, None)), ("none", (0,)),
                                  ("least", (0, (settings[0] - 26) ** 2 + 3, 0)), ("none", (0, 1, 2))):
                        self.assertIs(self.judge(settings, breaks, *paper), False)

    def test_papers_on_all_breaks_are_none_on_given_ones(self):
        paper = explain_lines(FONT, self.FORMULA, (30, 5, 3))
        self.assertIs(self.judge((30, 5, 3), (1, 3), *paper), False)
        paper = explain_breaks(FONT, self.FORMULA, (30, 5, 3), (1, 3))
        self.assertIs(judge_lines(FONT, self.FORMULA, (30, 5, 3), paper), False)
        paper = explain_breaks(FONT, self.FORMULA, (62, 5, 3), (1, 3))
        self.assertIs(judge_lines(FONT, self.FORMULA, (62, 5, 3), paper), False)


class Altered(unittest.TestCase):
    """The makers' papers with one place of them altered, and papers for other settings and breaks."""

    def test_papers_on_all_breaks(self):
        taken = []
        for number, (font, formula) in enumerate(some(40, most=3)):
            for settings in list(some_settings(font, formula, number))[number % 3::3]:
                case = Case(font, formula, settings)
                for paper in altered(explain_lines(font, formula, settings)):
                    wanted = case.takes(paper)
                    taken.append(wanted)
                    self.assertIs(judge_lines(font, formula, settings, paper), wanted, (formula, settings, paper))
        self.assertGreater(taken.count(True), 300)
        self.assertGreater(taken.count(False), 5000)

    def test_papers_on_given_breaks(self):
        taken = []
        for number, (font, formula) in enumerate(some(40, most=3)):
            for settings in list(some_settings(font, formula, number))[number % 3::3]:
                case = Case(font, formula, settings)
                fitting = [breaks for breaks in case.every() if case.cost(breaks) is not None]
                for breaks in fitting[:2] + fitting[2:][-2:]:
                    for paper in altered(explain_breaks(font, formula, settings, breaks)):
                        wanted = case.takes_on(breaks, paper)
                        taken.append(wanted)
                        self.assertIs(judge_breaks(font, formula, settings, breaks, paper), wanted, (formula, paper))
        self.assertGreater(taken.count(True), 200)
        self.assertGreater(taken.count(False), 5000)

    def test_all_costs_of_small_formulas(self):
        # Lines cost at most 16, so that the costs at the edge of what is taken are all tried.
        numbers = (None, *range(-1, 7))
        for text, width in (("x=x", 6), ("x=x", 7), ("x=x", 9), ("x=x=x", 6), ("x=x=x", 8), ("==x", 4), ("=+x=", 3)):
            formula = parse(text)
            for settings in ((width, 0, 0), (width, 1, 2)):
                case = Case(WIDE, formula, settings)
                for costs in itertools.product(numbers, repeat=len(case.places)):
                    for breaks in case.every():
                        paper = ("least", breaks, costs)
                        self.assertIs(judge_lines(WIDE, formula, settings, paper), case.takes(paper), paper)
                        paper = ("least", costs)
                        self.assertIs(judge_breaks(WIDE, formula, settings, breaks, paper),
                                      case.takes_on(breaks, paper), (breaks, paper))

    def test_all_sets_of_places(self):
        for number, (font, formula) in enumerate(some(60, most=3)):
            for settings in list(some_settings(font, formula, number))[:6]:
                case = Case(font, formula, settings)
                for many in range(len(case.places) + 1):
                    for reached in itertools.combinations(range(len(case.places)), many):
                        for paper in (("none", reached), ("none", reached[::-1]), ("none", reached + reached[:1])):
                            self.assertIs(judge_lines(font, formula, settings, paper), case.takes(paper))


class NoPapers(unittest.TestCase):

    CASES = (("", (0, 0, 0), ()), ("x+x=x", (62, 5, 3), (3,)), ("x+x=x", (30, 5, 3), (1, 3)), ("x", (9, 0, 0), ()))

    def check(self, paper):
        for text, settings, breaks in self.CASES:
            self.assertIs(judge_lines(FONT, parse(text), settings, paper), False)
            self.assertIs(judge_breaks(FONT, parse(text), settings, breaks, paper), False)

    def test_what_is_no_paper_at_all(self):
        for paper in no_papers():
            self.check(paper)

    def test_papers_that_hold_something_odd(self):
        for value in ODD + (object(), None, 1.5, "0", b"0", [], {}, set(), range(1), float("nan")):
            self.check(("least", value))
            self.check(("none", value))
            self.check(("better", value))
            self.check(("least", value, (0,)))
            self.check(("least", (), value))
            self.check(("least", (value,), (0, 19, 220)))
            self.check(("least", (1, value), (0, 19, 220)))
            self.check(("none", (0, value)))
            self.check(("none", (value, 0)))
            self.check(("better", (value,)))
            self.check((value, (), (0,)))
            self.check((value, (0,)))
            if value is not None:
                self.check(("least", (1, 3), (0, 19, value)))
                self.check(("least", (0, 19, value)))
                self.check(("least", (value, 19, 220)))
                self.check(("least", (value,)))

    def test_very_large_values(self):
        deep = deep_tuple(100000)
        many = (0,) * 100000
        for value in (deep, many, 10 ** 5000, -10 ** 5000):
            for paper in (value, ("least", value), ("better", value), ("least", value, value), (value,),
                          ("least", (), (0, value, value)), ("none", (0, value)), ("least", (value,), (0,))):
                self.check(paper)

    def test_repeated_places_are_no_harm(self):
        self.assertIs(judge_lines(FONT, parse("x"), (9, 0, 0), ("none", (0,) * 100000)), True)

    def test_nothing_that_is_passed_is_changed(self):
        for value in ([1, 3], [0, 19, 220], [[0]], {1: [2]}):
            copy = repr(value)
            for paper in (value, ("least", value, value), ("none", value), ("better", value)):
                self.check(paper)
            self.assertEqual(repr(value), copy)


class Truth(unittest.TestCase):
    """What is taken is so: compared with a walk through all sets of possible breaks (points 22 to 26)."""

    def test_whatever_is_taken_on_all_breaks(self):
        for number, (font, formula) in enumerate(some(50, most=3)):
            for settings in list(some_settings(font, formula, number))[number % 4::4]:
                case = Case(font, formula, settings)
                least = case.least()
                other = explain_lines(font, formula, (settings[0] + 1, *settings[1:]))
                paper = explain_lines(font, formula, settings)
                for given in [paper, other] + altered(paper) + altered(other):
                    if judge_lines(font, formula, settings, given):
                        self.assertEqual(given[0], "none" if least is None else "least")
                        if least is not None:
                            self.assertEqual(case.cost(given[1]), least)

    def test_whatever_is_taken_on_given_breaks(self):
        for number, (font, formula) in enumerate(some(30, most=3)):
            for settings in list(some_settings(font, formula, number))[number % 4::4]:
                case = Case(font, formula, settings)
                fitting = [breaks for breaks in case.every() if case.cost(breaks) is not None]
                papers = [explain_breaks(font, formula, settings, breaks) for breaks in fitting]
                papers += [("better", breaks) for breaks in case.every()]
                papers += [("least", values) for paper in papers[:2] for values in altered_tuples(paper[1])]
                for breaks in case.every():
                    kinds = set()
                    for paper in papers:
                        if judge_breaks(font, formula, settings, breaks, paper):
                            kinds.add(paper[0])
                    if case.cost(breaks) is None:
                        self.assertEqual(kinds, set())
                    else:
                        self.assertEqual(kinds, {"least" if case.cost(breaks) == case.least() else "better"})

    def test_makers_and_break_lines_agree_with_the_search(self):
        for number, (font, formula) in enumerate(some(60)):
            for settings in some_settings(font, formula, number):
                best = searched(font, formula, settings)
                self.assertEqual(break_lines(font, formula, settings), best)
                paper = explain_lines(font, formula, settings)
                case = Case(font, formula, settings)
                self.assertEqual(paper[0], "none" if best is None else "least")
                if best is not None:
                    self.assertEqual(case.cost(paper[1]), case.cost(best))


class Errors(unittest.TestCase):
    """BadSettings, then UnknownSymbol, then BadBreaks; none because of a paper."""

    PAPERS = (None, ("least", (), (0,)), ("none", (0,)), ("better", ()), ())

    def test_bad_settings(self):
        for text in ("x", "y"):
            for settings in NO_SETTINGS:
                with self.assertRaises(BadSettings):
                    explain_lines(FONT, parse(text), settings)
                for breaks in ((), (7,), None):
                    with self.assertRaises(BadSettings):
                        explain_breaks(FONT, parse(text), settings, breaks)
                for paper in self.PAPERS:
                    with self.assertRaises(BadSettings):
                        judge_lines(FONT, parse(text), settings, paper)
                    with self.assertRaises(BadSettings):
                        judge_breaks(FONT, parse(text), settings, (7,), paper)

    def test_unknown_symbols(self):
        for text, name in (("y", "y"), ("x+@frac x{y}z", "y"), ("x^{y}_{z}", "z"), ("@left[x@right]", "[")):
            calls = [lambda formula: explain_lines(FONT, formula, (1, 1, 1))]
            for breaks in ((), (7,), None):
                calls.append(lambda formula, breaks=breaks: explain_breaks(FONT, formula, (1, 1, 1), breaks))
                for paper in self.PAPERS:
                    calls.append(lambda formula, breaks=breaks, paper=paper:
                                 judge_breaks(FONT, formula, (1, 1, 1), breaks, paper))
                    calls.append(lambda formula, paper=paper: judge_lines(FONT, formula, (1, 1, 1), paper))
            for call in calls:
                with self.assertRaises(UnknownSymbol) as caught:
                    call(parse(text))
                self.assertEqual(caught.exception.name, name)

    def test_bad_breaks(self):
        for breaks in ((0,), (2,), (4,), (1, 1), (3, 1), (-1,), [1], [], None, True, 1, "", (True,), (None,), (1.0,)):
            for settings in ((62, 5, 3), (0, 0, 0)):
                with self.assertRaises(BadBreaks, msg=breaks):
                    explain_breaks(FONT, parse("x+x=x"), settings, breaks)
                for paper in self.PAPERS:
                    with self.assertRaises(BadBreaks, msg=breaks):
                        judge_breaks(FONT, parse("x+x=x"), settings, breaks, paper)


if __name__ == "__main__":
    unittest.main()
