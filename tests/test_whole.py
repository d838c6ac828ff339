"""What the document promises over the whole program (points 1 to 3): arguments, lists, errors, formulas of editors."""

import copy
import unittest

from chosen import fonts, formulas
from editing import edited
from mathgalley import boxes, breaking, carets, papers, sources, spacing
from mathgalley.editors import Editor
from mathgalley.errors import SetError
from mathgalley.sources import parse, text_of

FONTS = fonts()
SETTINGS = (60, 3, 5)


def calls(font, formula, style):
    """Functions without arguments, one for each function and method of the interface that takes a formula or a font."""
    editor = Editor(font, style)
    editor.replace(0, 0, text_of(formula))
    stops = breaking.chances(font, formula)
    breaks = stops[::2]
    paper = papers.explain_lines(font, formula, SETTINGS)
    return [
        lambda: sources.text_of(formula), lambda: sources.rows_of(formula), lambda: sources.check_formula(formula),
        lambda: spacing.classes_of(font, formula), lambda: boxes.measure(font, formula, style),
        lambda: boxes.layout(font, formula, style), lambda: boxes.placed_rows(font, formula, style), lambda: stops,
        lambda: breaking.lines_of(font, formula, breaks),
        lambda: breaking.cost_of(font, formula, SETTINGS, breaks),
        lambda: breaking.break_lines(font, formula, SETTINGS),
        lambda: papers.judge_lines(font, formula, SETTINGS, paper),
        lambda: papers.judge_breaks(font, formula, SETTINGS, breaks, paper),
        lambda: papers.explain_lines(font, formula, SETTINGS),
        lambda: papers.explain_breaks(font, formula, SETTINGS, breaks),
        lambda: carets.carets(font, formula, style), lambda: carets.nearest(font, formula, style, 3, 4),
        lambda: carets.caret_place(formula, 0), lambda: carets.caret_number(formula, 0, 0),
        editor.texts, editor.carets, editor.layout, lambda: editor.nearest(1, 2), lambda: editor.between(0, 0),
        lambda: editor.foresee(0, 0, ""), lambda: list(editor), lambda: font.metrics("x", style),
    ]


def spoil(value):
    if isinstance(value, list):
        value.append(None)
        value[0] = None
        value.reverse()


class Whole(unittest.TestCase):

    def test_nothing_that_is_passed_changes_and_lists_are_new(self):
        for number, formula in enumerate(formulas(40, most=5, deep=2)):
            font, style = FONTS[number % len(FONTS)], number % 4
            symbols, lengths, before = font.symbols, font.lengths, copy.deepcopy(formula)
            for call in calls(font, formula, style):
                first = call()
                kept = copy.deepcopy(first)
                spoil(first)
                again = call()
                self.assertEqual(again, kept)
                spoil(again)
                self.assertEqual(call(), kept)
            self.assertEqual(formula, before)
            self.assertIs(font.symbols, symbols)
            self.assertIs(font.lengths, lengths)

    def test_formulas_of_editors_are_formulas(self):
        editor = edited("x+x=2")
        editor.replace(1, 1, "2@frac{x}{}")
        formula = editor.formula
        self.assertEqual(formula, parse("x2@frac{x}{}+x=2"))
        for call in calls(editor.font, formula, 1):
            call()

    def test_what_is_returned_can_be_passed_on(self):
        font = FONTS[2]
        for formula in formulas(20):
            for row in sources.rows_of(formula):
                self.assertEqual(parse(text_of(row)), row)
                self.assertEqual(boxes.layout(font, row, 0), boxes.layout(font, parse(text_of(row)), 0))

    def test_all_errors_are_under_set_error(self):
        editor = edited("x")
        wrong = [
            lambda: parse("}"), lambda: parse("{" * 8), lambda: parse("x" * 401), lambda: parse("x" * 81),
            lambda: Editor(FONTS[0], 4), lambda: editor.replace(9, 9, ""), lambda: editor.replace(1, 0, ""),
            lambda: editor.replace(0, 0, "y"), lambda: editor.set_style(-1), lambda: editor.between(1, 0),
            lambda: papers.explain_lines(FONTS[0], (), None), lambda: papers.judge_lines(FONTS[0], (), (), None),
            lambda: papers.judge_breaks(FONTS[0], (), (1, 1, 1), (0,), None), lambda: carets.caret_place((), 1),
            lambda: carets.caret_number((), 0, 1), lambda: carets.carets(FONTS[0], (), 4),
        ]
        for call in wrong:
            with self.assertRaises(SetError) as caught:
                call()
            self.assertIsInstance(caught.exception, ValueError)


if __name__ == "__main__":
    unittest.main()
