"""Random deeds: an editor against a model, and what holds behind any deeds (points 2, 3, 8, 27 to 31)."""

import random
import unittest

import marks
from chosen import NAMES, Chooser, fonts
from editing import state
from mathgalley.boxes import layout
from mathgalley.carets import carets, nearest
from mathgalley.editors import Editor
from mathgalley.fonts import Font
from mathgalley.sources import check_formula, parse, rows_of, text_of
from model import Model, outcome

FONTS = fonts()
WRONG = ("}", "x^", "#", "@frac x", "@grid{&~}", "x" * 401, "{" * 8 + "}" * 8, "x" * 81, "@unknown", "x_{z}", "@left z@right.")


class Deeds:
    """Does the same random deeds with an editor and with its model; wild ones fail more often."""

    def __init__(self, number, wild=0.2):
        self.random = random.Random(number)
        self.font = FONTS[number % len(FONTS)]
        if number % 5 == 0:
            # A font that lacks some of the symbols.
            self.font = Font(self.font.symbols[:self.random.randint(4, 15)], self.font.lengths)
        style = self.random.randrange(4)
        self.editor = Editor(self.font, style)
        self.model = Model(self.font, style)
        self.wild = wild
        self.outcomes = []

    def text(self):
        if self.random.random() < self.wild / 4:
            return self.random.choice(WRONG)
        if self.random.random() < self.wild / 4:
            return "{" * self.random.randint(2, 6) + self.random.choice("xy+") + "}" * 6
        chooser = Chooser(self.random.randrange(10 ** 6), shown=[name for name in NAMES if name != "@root"])
        return text_of(chooser.formula(self.random.randint(0, 4), self.random.randint(0, 2)))[:400]

    def span(self):
        """Two carets: mostly of one row and in order."""
        places = marks.places(self.editor.formula)
        first = self.random.randrange(len(places))
        if self.random.random() < self.wild:
            return first, self.random.randint(-2, len(places) + 1)
        behind = [k for k, (row, offset) in enumerate(places) if row == places[first][0] and k >= first]
        return first, self.random.choice(behind[:3])

    def both(self, name, *arguments):
        """Call a method of both; the outcomes are equal, and an error changes nothing."""
        before = state(self.editor), self.editor.undone
        wanted = outcome(getattr(self.model, name), *arguments)
        found = outcome(getattr(self.editor, name), *arguments)
        assert (found, type(found)) == (wanted, type(wanted)), (name, arguments, found, wanted)
        if isinstance(found, tuple):
            assert before == (state(self.editor), self.editor.undone)
        self.outcomes.append((name, found[0] if isinstance(found, tuple) else "done"))

    def one(self):
        deed = self.random.choice(["replace"] * 4 + ["between", "set_style", "undo", "undo", "redo", "look", "foresee",
                                                     "tried"])
        if deed in ("replace", "between", "foresee"):
            arguments = self.span() + (() if deed == "between" else (self.text(),))
            if deed == "foresee":
                self.foresee(arguments)
            else:
                self.both(deed, *arguments)
        elif deed == "set_style":
            self.both(deed, self.random.choice((0, 1, 2, 3, 3, 4)))
        elif deed in ("undo", "redo"):
            self.both(deed)
        elif deed == "look":
            self.look()
        else:
            self.trial()

    def foresee(self, arguments):
        before = state(self.editor), self.editor.undone
        found = outcome(self.editor.foresee, *arguments)
        wanted = outcome(self.model.copy().replace, *arguments)
        assert found == wanted, (arguments, found, wanted)
        assert before == (state(self.editor), self.editor.undone)

    def trial(self):
        kept = self.model.copy()
        with self.editor.tried() as held:
            assert held is self.editor
            for _ in range(self.random.randrange(4)):
                self.one()
        self.model = kept

    def look(self):
        """Lay out in one of the three ways."""
        way = self.random.randrange(3)
        formula, style = self.editor.formula, self.editor.style
        if way == 0:
            assert self.editor.layout() == layout(self.font, formula, style)
        elif way == 1:
            assert self.editor.carets() == carets(self.font, formula, style)
        else:
            x, y = self.random.randint(-50, 300), self.random.randint(-50, 50)
            assert self.editor.nearest(x, y) == nearest(self.font, formula, style, x, y)
        ahead = self.model.measured
        self.model.lay_out()
        assert self.model.measured - ahead <= len(rows_of(formula))

    def compare(self):
        editor, model = self.editor, self.model
        assert (editor.formula, editor.style) == (model.formula, model.style)
        assert editor.measured == model.measured, (editor.measured, model.measured)
        assert editor.texts() == model.texts()
        assert list(editor) == model.states[:model.at]
        assert len(editor) == model.at


class Many(unittest.TestCase):

    def test_an_editor_does_what_its_model_does(self):
        outcomes = set()
        for number in range(60):
            deeds = Deeds(number, wild=(number % 4) / 5)
            for _ in range(60):
                deeds.one()
                deeds.compare()
            outcomes |= set(deeds.outcomes)
        wanted = {("replace", kind) for kind in (
            "done", "TooLong", "SyntaxFault", "TooDeep", "TooLarge", "NoSuchCaret", "CaretsApart", "CaretsReversed",
            "UnknownSymbol")}
        wanted |= {("between", kind) for kind in ("done", "NoSuchCaret", "CaretsApart", "CaretsReversed")}
        wanted |= {("set_style", "done"), ("set_style", "BadStyle"), ("undo", "done"), ("redo", "done")}
        self.assertEqual(wanted - outcomes, set())

    def test_full_histories(self):
        for number in range(8):
            deeds = Deeds(100 + number, wild=0.3)
            while len(deeds.editor) < 40:
                deeds.both("set_style", number % 4)
            for _ in range(80):
                deeds.one()
                deeds.compare()
            kinds = {kind for _, kind in deeds.outcomes}
            self.assertIn("HistoryFull", kinds)

    def test_as_an_editor_that_is_made_anew(self):
        for number in range(40):
            deeds = Deeds(200 + number)
            for _ in range(12):
                for _ in range(3):
                    deeds.one()
                editor = deeds.editor
                formula = editor.formula
                check_formula(formula)
                self.assertEqual(parse(text_of(formula)), formula)
                anew = Editor(deeds.font, editor.style)
                anew.replace(0, 0, editor.texts()[-1])
                self.assertEqual(anew.formula, formula)
                ahead = editor.measured
                self.assertEqual(editor.layout(), anew.layout())
                self.assertEqual(editor.carets(), anew.carets())
                for x, y in ((0, 0), (20, 5), (-3, 40), (500, -9)):
                    self.assertEqual(editor.nearest(x, y), anew.nearest(x, y))
                self.assertLessEqual(editor.measured - ahead, len(rows_of(formula)))
                self.assertLessEqual(editor.measured - ahead, anew.measured)
                deeds.model.lay_out()

    def test_undoing_all_edits_leads_back_to_the_empty_formula(self):
        for number in range(40):
            deeds = Deeds(300 + number)
            first = deeds.editor.style
            for _ in range(30):
                deeds.one()
            editor = deeds.editor
            before = list(editor) + [(editor.formula, editor.style)]
            texts = editor.texts()
            while editor.undo():
                before_undo = before[len(editor)]
                self.assertEqual((editor.formula, editor.style), before_undo)
                self.assertEqual(editor.texts(), texts[:len(editor) + 1])
            self.assertEqual((editor.formula, editor.style), ((), first))
            self.assertEqual((editor.texts(), list(editor), len(editor)), ([""], [], 0))
            self.assertEqual(editor.layout(), ((0, 0, 0), ()))
            for _ in range(len(before) - 1):
                self.assertIs(editor.redo(), True)
            self.assertEqual(editor.texts(), texts)

    def test_each_caret_of_a_formula(self):
        for number in range(25):
            font = FONTS[number % len(FONTS)]
            formula = Chooser(number).formula(4, 2)
            places = marks.places(formula)
            for first, (row, _) in enumerate(places):
                for last in [k for k, place in enumerate(places) if place[0] == row and k >= first]:
                    editor = Editor(font, 1)
                    editor.replace(0, 0, text_of(formula))
                    self.assertEqual(editor.between(first, last), marks.between(formula, first, last))
                    behind = editor.replace(first, last, "x^{y}")
                    wanted = marks.replaced(formula, first, last, "x^{y}")
                    self.assertEqual(editor.formula, wanted)
                    self.assertEqual(behind, first + 3)
                    self.assertEqual(editor.between(first, behind), "x^{y}")
                    # What was there, put back.
                    editor.replace(first, behind, marks.between(formula, first, last))
                    self.assertEqual(editor.formula, formula)


if __name__ == "__main__":
    unittest.main()
