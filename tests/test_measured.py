"""How many pairs an editor measures (point 30)."""

import unittest

from editing import FONT
from mathgalley.editors import Editor


class Measured(unittest.TestCase):

    def check(self, editor, many):
        editor.layout()
        self.assertEqual(editor.measured, many)

    def test_nothing_is_measured_ahead_of_a_layout(self):
        editor = Editor(FONT, 1)
        editor.replace(0, 0, "x^2")
        editor.set_style(2)
        editor.undo()
        editor.texts(), editor.between(0, 3), list(editor), editor.redo(), editor.foresee(0, 0, "x")
        self.assertEqual(editor.measured, 0)

    def test_each_row_is_a_pair(self):
        for text, many in (("", 1), ("xx+", 1), ("x^2", 2), ("@frac{x}{2}", 3), ("{x}_{2}^{22}", 4), ("@root{}", 2)):
            editor = Editor(FONT, 1)
            editor.replace(0, 0, text)
            self.check(editor, many)

    def test_equal_pairs_count_once(self):
        for text, many in (("{x}{x}", 2), ("@frac x x", 2), ("@grid{x&x~x&x}", 2), ("x^2_2", 2), ("{x}x^x", 3),
                           ("{{}}{}", 3), ("@grid{&}{}", 2)):
            editor = Editor(FONT, 1)
            editor.replace(0, 0, text)
            self.check(editor, many)

    def test_rows_in_other_styles_are_other_pairs(self):
        editor = Editor(FONT, 0)
        editor.replace(0, 0, "{x}x^x@frac x x@grid{x}")
        # The whole in 0; x in 0, 2 and 1.
        self.check(editor, 4)

    def test_a_second_layout_measures_nothing(self):
        editor = Editor(FONT, 1)
        editor.replace(0, 0, "x^2")
        for _ in range(2):
            editor.layout(), editor.carets(), editor.nearest(3, 3)
            self.assertEqual(editor.measured, 2)

    def test_carets_and_the_nearest_one_need_a_layout(self):
        for call in (lambda editor: editor.carets(), lambda editor: editor.nearest(3, 3)):
            editor = Editor(FONT, 1)
            editor.replace(0, 0, "x^2")
            call(editor)
            self.assertEqual(editor.measured, 2)
            self.check(editor, 2)

    def test_only_new_pairs_behind_an_edit(self):
        editor = Editor(FONT, 1)
        editor.replace(0, 0, "x^2@frac{x}{2}")
        # The whole, 2 and x in style 2.
        self.check(editor, 3)
        editor.replace(2, 2, "2")
        # The whole, and 22 in style 2; the 2 is still used below the bar.
        self.check(editor, 5)
        editor.replace(0, 4, "")
        self.check(editor, 6)

    def test_what_the_last_layout_did_not_use_is_measured_again(self):
        editor = Editor(FONT, 1)
        editor.replace(0, 0, "x^2")
        self.check(editor, 2)
        editor.replace(0, 3, "")
        self.check(editor, 3)
        editor.replace(0, 0, "x^2")
        self.check(editor, 5)

    def test_edits_without_a_layout_between_them_measure_nothing(self):
        editor = Editor(FONT, 1)
        editor.replace(0, 0, "x^2")
        self.check(editor, 2)
        editor.replace(0, 3, "")
        editor.replace(0, 0, "x^2")
        self.check(editor, 2)

    def test_the_rows_of_what_is_left_are_known(self):
        editor = Editor(FONT, 1)
        editor.replace(0, 0, "{x}{2}")
        self.check(editor, 3)
        editor.replace(0, 6, "x")
        self.check(editor, 3)
        # Now only x was laid out.
        editor.replace(0, 1, "{x}{2}")
        self.check(editor, 5)

    def test_behind_undo_and_redo(self):
        editor = Editor(FONT, 1)
        editor.replace(0, 0, "x^2")
        self.check(editor, 2)
        editor.undo()
        self.check(editor, 3)
        editor.redo()
        self.check(editor, 5)
        editor.undo()
        editor.redo()
        self.check(editor, 5)

    def test_behind_a_change_of_the_style(self):
        editor = Editor(FONT, 0)
        editor.replace(0, 0, "x^2")
        self.check(editor, 2)
        editor.set_style(1)
        # The superscript is in style 2 as before.
        self.check(editor, 3)
        editor.set_style(2)
        self.check(editor, 5)
        editor.set_style(2)
        self.check(editor, 5)
        editor.set_style(3)
        self.check(editor, 6)
        editor.undo()
        self.check(editor, 7)
        editor.set_style(2)
        self.check(editor, 7)

    def test_a_known_row_in_a_new_place(self):
        editor = Editor(FONT, 1)
        editor.replace(0, 0, "@root{x@frac{2}{x}}")
        # The whole, x@frac.. in style 1, 2 and x in style 2.
        self.check(editor, 4)
        editor.replace(0, 0, "2^{2}")
        self.check(editor, 5)
        editor.replace(0, len(editor.carets()) - 1, "{x@frac{2}{x}}")
        self.check(editor, 6)


if __name__ == "__main__":
    unittest.main()
