"""Editors (points 2, 3, 27, 29, 30): each method by worked examples, each error alone and beside others."""

import unittest

from editing import FONT, edited, full, state
from mathgalley.boxes import layout
from mathgalley.carets import carets, nearest
from mathgalley.editors import Editor
from mathgalley.errors import (
    BadStyle, CaretsApart, CaretsReversed, HistoryFull, NoSuchCaret, SetError, SyntaxFault, TooDeep, TooLarge, TooLong,
    UnknownSymbol,
)
from mathgalley.fonts import Font
from mathgalley.sources import parse, text_of
from samples import LENGTHS, SYMBOLS

NO_STYLES = (-1, 4, 5, 10 ** 30, None, True, False, "0", "", 1.0, (), (0,), [1], {})


class New(unittest.TestCase):

    def test_fields(self):
        for style in range(4):
            editor = Editor(FONT, style)
            self.assertEqual(state(editor), (FONT, (), style, 0, [""], [], 0))
            self.assertIs(editor.font, FONT)
            self.assertIs(editor.undo(), False)
            self.assertIs(editor.redo(), False)

    def test_what_is_no_style(self):
        for style in NO_STYLES:
            with self.assertRaises(BadStyle):
                Editor(FONT, style)

    def test_layout_of_no_items(self):
        editor = Editor(FONT, 2)
        self.assertEqual(editor.layout(), ((0, 0, 0), ()))
        self.assertEqual(editor.carets(), [(0, 0, 4)])
        self.assertEqual(editor.nearest(7, -8), 0)

    def test_two_editors_share_nothing(self):
        one, other = Editor(FONT, 1), Editor(FONT, 1)
        one.replace(0, 0, "x")
        one.layout()
        self.assertEqual(state(other), (FONT, (), 1, 0, [""], [], 0))


class Replacing(unittest.TestCase):

    def check(self, before, first, last, text, after, caret):
        editor = edited(before)
        self.assertEqual(editor.replace(first, last, text), caret)
        self.assertEqual(editor.formula, parse(after))
        self.assertEqual(editor.texts(), ["", text_of(parse(before)), text_of(parse(after))])
        self.assertEqual(len(editor), 2)

    def test_in_the_outermost_row(self):
        self.check("", 0, 0, "", "", 0)
        self.check("", 0, 0, "x+x", "x+x", 3)
        self.check("xx", 0, 0, "2", "2xx", 1)
        self.check("xx", 1, 1, "2", "x2x", 2)
        self.check("xx", 2, 2, "2", "xx2", 3)
        self.check("x+x", 1, 2, "", "xx", 1)
        self.check("x+x", 0, 3, "2", "2", 1)
        self.check("x+x", 0, 3, "", "", 0)

    def test_the_caret_behind_new_items_with_rows(self):
        self.check("xx", 1, 1, "@frac x 2", "x@frac x 2x", 6)
        self.check("xx", 0, 2, "2^2@root{}", "2^2@root{}", 5)
        self.check("x^2 x", 4, 4, "x^2 x", "x^2 xx^2x", 8)

    def test_items_with_rows_go(self):
        self.check("x^2 x", 0, 3, "2", "2x", 1)
        self.check("x@frac x{xx}2", 1, 7, "", "x2", 1)

    def test_in_inner_rows(self):
        self.check("x^2", 1, 1, "x", "x^{x2}", 2)
        self.check("x^2", 1, 2, "", "x^{}", 1)
        self.check("x_{x}^{2}", 1, 2, "2+2", "x_{2+2}^2", 4)
        self.check("x_{x}^{2}", 3, 4, "2+2", "x_x^{2+2}", 6)
        self.check("@frac{x}{2}", 1, 2, "", "@frac{}{2}", 1)
        self.check("@frac{x}{2}", 3, 4, "x2", "@frac{x}{x2}", 5)
        self.check("@root{}", 1, 1, "x^2", "@root{x^2}", 4)
        self.check("@left(x@right.", 2, 2, "x", "@left(xx@right.", 3)
        self.check("@grid{&x~2&}", 1, 1, "x", "@grid{x&x~2&}", 2)
        self.check("@grid{&x~2&}", 2, 3, "", "@grid{&~2&}", 2)
        self.check("@grid{&x~2&}", 4, 5, "xx", "@grid{&x~xx&}", 6)
        self.check("@grid{&x~2&}", 6, 6, "2", "@grid{&x~2&2}", 7)
        self.check("x{x^{2}}_{{}}^{2}x", 3, 4, "x", "x{x^{x}}_{{}}^{2}x", 4)
        self.check("x{x^{2}}_{{}}^{2}x", 7, 7, "x", "x{x^{2}}_{{x}}^{2}x", 8)

    def test_scripts_that_are_not_there_stay_none(self):
        editor = edited("x_2", "{}")
        editor.replace(1, 2, "x")
        self.assertEqual(editor.formula, parse("x_x{}"))
        self.assertIsNone(editor.formula[0][2])

    def test_replacing_that_changes_nothing_is_an_edit(self):
        editor = edited("x")
        self.assertEqual(editor.replace(0, 1, " x "), 1)
        self.assertEqual(editor.replace(0, 0, ""), 0)
        self.assertEqual(editor.texts(), ["", "x", "x", "x"])

    def test_a_text_of_spaces_and_arguments_without_braces(self):
        editor = Editor(FONT, 1)
        self.assertEqual(editor.replace(0, 0, "   "), 0)
        self.assertEqual(editor.replace(0, 0, "x ^2"), 3)
        self.assertEqual(editor.texts(), ["", "", "x^{2}"])

    def test_a_former_formula_is_not_changed(self):
        editor = edited("x^2")
        before = editor.formula
        copy = repr(before)
        editor.replace(1, 2, "xx")
        self.assertEqual(repr(before), copy)
        self.assertEqual(list(editor)[1], (before, 1))

    def test_limits_that_are_just_kept(self):
        editor = edited("x" * 79)
        editor.replace(79, 79, "x")
        self.assertEqual(len(editor.formula), 80)
        editor.replace(0, 80, "x" * 80)
        editor = edited("@abcdefgh" * 44)
        self.assertEqual(editor.replace(44, 44, "2222"), 48)
        self.assertEqual(len(text_of(editor.formula)), 400)
        editor = edited("{" * 6 + "}" * 6)
        editor.replace(6, 6, "{2}")
        self.assertEqual(text_of(editor.formula), "{{{{{{{2}}}}}}}")


class Between(unittest.TestCase):

    def check(self, text, first, last, wanted):
        editor = edited(text)
        before = state(editor)
        self.assertEqual(editor.between(first, last), wanted)
        self.assertEqual(state(editor), before)

    def test_normal_texts(self):
        self.check("", 0, 0, "")
        self.check("x+x", 0, 3, "x+x")
        self.check("x+x", 1, 3, "+x")
        self.check("x+x", 2, 2, "")
        self.check("x^2 x", 0, 3, "x^{2}")
        self.check("x^2 x", 1, 2, "2")
        self.check("@abcdefgh x@abcdefgh x", 0, 4, "@abcdefgh x@abcdefgh x")
        self.check("@abcdefgh x@abcdefgh x", 0, 3, "@abcdefgh x@abcdefgh")
        self.check("@frac x{22}+", 3, 5, "22")
        self.check("@frac x{22}+", 0, 6, "@frac{x}{22}")
        self.check("@grid{x&2}", 3, 4, "2")

    def test_errors(self):
        editor = edited("x^2 x")
        before = state(editor)
        for first, last in ((-1, 0), (0, -1), (5, 5), (0, 5), (5, 0), (-1, 1), (1, 5), (10 ** 9, 0), (True, 3)):
            with self.assertRaises(NoSuchCaret):
                editor.between(first, last)
        for first, last in ((0, 1), (0, 2), (1, 3), (2, 4), (1, 0), (2, 0), (3, 1), (4, 2)):
            with self.assertRaises(CaretsApart):
                editor.between(first, last)
        for first, last in ((3, 0), (4, 0), (4, 3), (2, 1)):
            with self.assertRaises(CaretsReversed):
                editor.between(first, last)
        self.assertEqual(state(editor), before)


# Texts with each error of reading; the carets 0 and 0 are there always.
READING = (
    ("x" * 401, TooLong), ("x}", SyntaxFault), ("x^", SyntaxFault), ("#", SyntaxFault), ("{" * 8 + "}" * 8, TooDeep),
    ("x" * 81, TooLarge), ("@abcdefgh" * 40 + "2^2" * 10, TooLarge), ("y" * 81, TooLarge),
)
# Pairs of carets of x^2 x with their errors; the ones of 0, 0 are as those of (0, 3).
CARETS = (
    (-1, 0, NoSuchCaret), (0, 5, NoSuchCaret), (5, 0, NoSuchCaret), (7, -7, NoSuchCaret), (None, 0, NoSuchCaret),
    (0, True, NoSuchCaret), (0, 1, CaretsApart), (4, 2, CaretsApart), (1, 0, CaretsApart), (4, 0, CaretsReversed),
    (2, 1, CaretsReversed),
)


class ErrorsOfReplacing(unittest.TestCase):

    def check(self, editor, first, last, text, error):
        """The error is raised, also by foresee, and nothing changes, the edits that can be redone included."""
        redoes = editor.undone
        before = state(editor)
        for call in (editor.replace, editor.foresee):
            with self.assertRaises(SetError) as caught:
                call(first, last, text)
            self.assertIs(type(caught.exception), error, (first, last, text))
            self.assertEqual(state(editor), before)
            self.assertEqual(editor.undone, redoes)
        return caught.exception

    def editor(self, text="x^2 x", is_full=False):
        if is_full:
            return full(text)
        editor = edited(text, "x")
        editor.undo()
        return editor

    def test_reading(self):
        for is_full in (False, True):
            for text, error in READING:
                self.check(self.editor(is_full=is_full), 0, 0, text, error)

    def test_where_reading_fails(self):
        self.assertEqual(self.check(self.editor(), 0, 0, "x2}", SyntaxFault).place, 2)
        self.assertEqual(self.check(self.editor(), -1, 99, "@frac x", SyntaxFault).place, 7)

    def test_reading_ahead_of_carets(self):
        for is_full in (False, True):
            for text, error in READING:
                for first, last, _ in CARETS:
                    self.check(self.editor(is_full=is_full), first, last, text, error)

    def test_carets(self):
        for is_full in (False, True):
            for text in ("", "x", "y", "{" * 7 + "}" * 7, "2" * 80):
                for first, last, error in CARETS:
                    self.check(self.editor(is_full=is_full), first, last, text, error)

    def test_carets_of_a_formula_without_items(self):
        for first, last in ((0, 1), (1, 0), (-1, 0), (0, -1), (1, 1)):
            self.check(Editor(FONT, 0), first, last, "x", NoSuchCaret)

    def test_too_deep(self):
        deep = "{" * 7 + "}" * 7
        for is_full in (False, True):
            for text in ("{}", "x^2", "@frac x 2", "@left(@right)", "@grid{}", "{y}", "{" * 7 + "}" * 7):
                self.check(self.editor(deep, is_full), 7, 7, text, TooDeep)
        self.check(self.editor("x^{x^{x}}"), 2, 2, "{" * 6 + "}" * 6, TooDeep)

    def test_too_deep_ahead_of_too_large(self):
        self.check(self.editor("{" * 7 + "}" * 7 + "x" * 70), 7, 7, "x" * 60 + "{}", TooDeep)

    def test_too_many_items(self):
        for is_full in (False, True):
            for text in ("xx", "yy", "{x}", "x_{x}", "x" * 80):
                self.check(self.editor("x" * 79, is_full), 79, 79, text, TooLarge)
        self.check(self.editor("x" * 79), 0, 78, "22" * 40, TooLarge)
        self.check(edited("x" * 80), 80, 80, "x", TooLarge)

    def test_too_long_a_normal_text(self):
        for is_full in (False, True):
            for text in ("2222", "+2+y", "@root{}", "{}{}"):
                self.check(self.editor("@abcdefgh" * 44 + "2", is_full), 44, 44, text, TooLarge)
        self.check(self.editor("@abcdefgh" * 44 + "{}"), 45, 45, "222", TooLarge)

    def test_unknown_symbols(self):
        for is_full in (False, True):
            for text, name in (("y", "y"), ("x^{y}_{z}", "z"), ("x@left[y@right]", "["), ("@left(y@right]", "y"),
                               ("@none", "@none"), ("@left(@right]", "]")):
                error = self.check(self.editor(is_full=is_full), 1, 2, text, UnknownSymbol)
                self.assertEqual(error.name, name)

    def test_the_sign_of_radicals(self):
        editor = Editor(Font(SYMBOLS[:3], LENGTHS), 1)
        self.assertEqual(self.check(editor, 0, 0, "x@root{y}", UnknownSymbol).name, "@root")
        self.assertEqual(self.check(editor, 0, 0, "x_y@root{}", UnknownSymbol).name, "y")

    def test_history_full(self):
        for first, last, text in ((0, 0, ""), (1, 2, "x"), (0, 4, "x^2 x")):
            self.check(self.editor(is_full=True), first, last, text, HistoryFull)

    def test_redo_is_still_possible_behind_an_error(self):
        editor = self.editor()
        for text, first, last in (("}", 0, 0), ("x", 0, 1), ("y", 0, 0)):
            with self.assertRaises(SetError):
                editor.replace(first, last, text)
        self.assertIs(editor.redo(), True)
        self.assertEqual(editor.texts(), ["", "x^{2}x", "x^{2}xx"])


class Styles(unittest.TestCase):

    def test_setting_the_style(self):
        editor = edited("x^2", style=0)
        for style in (3, 3, 0, 1, 2):
            self.assertIsNone(editor.set_style(style))
            self.assertEqual(editor.style, style)
            self.assertEqual(editor.layout(), layout(FONT, parse("x^2"), style))
        self.assertEqual(len(editor), 6)
        self.assertEqual(editor.texts(), [""] + ["x^{2}"] * 6)
        self.assertEqual([style for _, style in editor], [0, 0, 3, 3, 0, 1])

    def test_what_is_no_style(self):
        for editor in (edited("x^2"), full("x^2")):
            editor.undo()
            editor.redo()
            before = state(editor)
            for style in NO_STYLES:
                with self.assertRaises(BadStyle):
                    editor.set_style(style)
            self.assertEqual(state(editor), before)

    def test_history_full(self):
        editor = full("x")
        before = state(editor)
        for style in range(4):
            with self.assertRaises(HistoryFull):
                editor.set_style(style)
        self.assertEqual(state(editor), before)


class History(unittest.TestCase):

    def test_undo_and_redo_at_both_ends(self):
        editor = edited("x", "+", "2")
        editor.set_style(3)
        texts = ["", "x", "x+", "x+2", "x+2"]
        styles = [1, 1, 1, 1, 3]
        for k in (3, 2, 1, 0):
            self.assertIs(editor.undo(), True)
            self.assertEqual((editor.texts(), editor.style, len(editor)), (texts[:k + 1], styles[k], k))
            self.assertEqual(editor.formula, parse(texts[k]))
            self.assertEqual(list(editor), [(parse(texts[n]), styles[n]) for n in range(k)])
        for _ in range(2):
            self.assertIs(editor.undo(), False)
            self.assertEqual((editor.formula, editor.style, editor.texts()), ((), 1, [""]))
        for k in (1, 2, 3, 4):
            self.assertIs(editor.redo(), True)
            self.assertEqual((editor.texts(), editor.style, len(editor)), (texts[:k + 1], styles[k], k))
        for _ in range(2):
            self.assertIs(editor.redo(), False)
            self.assertEqual((editor.texts(), editor.style, len(editor)), (texts, 3, 4))

    def test_behind_an_edit_nothing_is_redone(self):
        for edit in (lambda editor: editor.replace(0, 0, "2"), lambda editor: editor.replace(1, 1, ""),
                     lambda editor: editor.set_style(1), lambda editor: editor.set_style(2)):
            editor = edited("x", "+", "2")
            editor.undo()
            editor.undo()
            edit(editor)
            self.assertIs(editor.redo(), False)
            self.assertEqual(len(editor), 2)
            self.assertEqual(editor.texts()[:2], ["", "x"])

    def test_asking_keeps_what_can_be_redone(self):
        editor = edited("x", "+")
        editor.undo()
        editor.layout(), editor.carets(), editor.nearest(0, 0), editor.texts(), editor.between(0, 1), list(editor)
        editor.foresee(0, 0, "2")
        self.assertIs(editor.redo(), True)
        self.assertEqual(editor.texts(), ["", "x", "x+"])

    def test_forty_edits_and_one_more(self):
        editor = Editor(FONT, 1)
        for k in range(40):
            self.assertEqual(len(editor), k)
            if k % 4 == 3:
                editor.set_style(k % 3)
            else:
                editor.replace(0, 0, "x")
        before = state(editor)
        self.assertEqual(len(editor), 40)
        self.assertEqual(len(editor.texts()), 41)
        for edit in (lambda: editor.replace(0, 0, "x"), lambda: editor.replace(0, 0, ""), lambda: editor.set_style(1),
                     lambda: editor.set_style(editor.style), lambda: editor.foresee(0, 0, "x")):
            with self.assertRaises(HistoryFull):
                edit()
            self.assertEqual(state(editor), before)

    def test_behind_undo_there_is_room_again(self):
        editor = full("x")
        self.assertIs(editor.undo(), True)
        editor.replace(1, 1, "2")
        self.assertEqual(len(editor), 40)
        with self.assertRaises(HistoryFull):
            editor.replace(0, 0, "x")
        for _ in range(40):
            self.assertIs(editor.undo(), True)
        self.assertIs(editor.undo(), False)
        self.assertEqual((editor.formula, editor.style), ((), 1))
        for _ in range(40):
            self.assertIs(editor.redo(), True)
        self.assertIs(editor.redo(), False)
        self.assertEqual(editor.texts()[-2:], ["x", "x2"])
        with self.assertRaises(HistoryFull):
            editor.set_style(0)

    def test_an_error_at_forty_edits_keeps_what_can_be_redone(self):
        editor = full("x")
        editor.undo()
        with self.assertRaises(UnknownSymbol):
            editor.replace(0, 0, "y")
        self.assertIs(editor.redo(), True)
        self.assertIs(editor.redo(), False)

    def test_lists_are_new(self):
        editor = edited("x", "+")
        for call in (editor.texts, editor.carets, lambda: list(editor)):
            found = call()
            copy = list(found)
            found.append(None)
            found[0] = None
            self.assertEqual(call(), copy)

    def test_going_through_the_states_while_they_change(self):
        editor = edited("x", "+", "2")
        seen = []
        for formula, style in editor:
            seen.append((text_of(formula), style))
            editor.undo()
        self.assertEqual(seen, [("", 1), ("x", 1), ("x+", 1)])
        self.assertEqual(editor.texts(), [""])


class Layouts(unittest.TestCase):

    def test_those_of_the_formula_in_its_style(self):
        for text in ("x+x=2", "@frac{x^2}{@sum_{x}^{2}}", "@grid{x&2~&x^{x^2}}", "@left(@root{x}@right)_2"):
            for style in range(4):
                editor = edited(text, style=style)
                formula = parse(text)
                self.assertEqual(editor.layout(), layout(FONT, formula, style))
                self.assertEqual(editor.carets(), carets(FONT, formula, style))
                for x, y in ((0, 0), (7, 9), (14, -3), (1000, 1000), (21, 2), (-5, 5)):
                    self.assertEqual(editor.nearest(x, y), nearest(FONT, formula, style, x, y))

    def test_kinds_of_values(self):
        editor = edited("x^2")
        box, parts = editor.layout()
        self.assertEqual([type(editor.layout()), type(box), type(parts)], [tuple] * 3)
        self.assertEqual([type(editor.carets()), type(editor.carets()[0])], [list, tuple])
        self.assertIs(type(editor.nearest(0, 0)), int)
        self.assertIs(type(editor.measured), int)


if __name__ == "__main__":
    unittest.main()
