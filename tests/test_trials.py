"""Trials, and replacements that are only foreseen (point 31)."""

import unittest

from editing import FONT, edited, full, state
from mathgalley.boxes import layout
from mathgalley.editors import Editor
from mathgalley.errors import HistoryFull, NoSuchCaret, UnknownSymbol
from mathgalley.sources import parse


class Trials(unittest.TestCase):

    def check_kept(self, editor, deed):
        """Behind the deed all is as it was, also what can be undone and redone, and what a layout measures."""
        before = state(editor)
        kept = (editor.past, editor.undone, dict(editor.known))
        deed()
        self.assertEqual(state(editor), before)
        self.assertEqual((editor.past, editor.undone, dict(editor.known)), kept)

    def editors(self):
        yield Editor(FONT, 2)
        for lays_out in (False, True):
            editor = Editor(FONT, 1)
            editor.replace(0, 0, "x^2")
            editor.set_style(0)
            if lays_out:
                editor.layout()
            editor.replace(0, 0, "2{x}")
            editor.undo()
            yield editor
        yield full("x")

    def test_the_value_is_the_editor(self):
        editor = edited("x")
        with editor.tried() as held:
            self.assertIs(held, editor)

    def test_all_deeds_within_a_trial(self):
        def deeds(editor):
            with editor.tried() as held:
                held.undo()
                held.undo()
                held.replace(0, 0, "xx+x")
                held.layout()
                held.set_style(3)
                held.carets()
                held.undo()
                held.undo()
                held.redo()
        for editor in self.editors():
            self.check_kept(editor, lambda: deeds(editor))

    def test_deeds_are_done_within_the_trial(self):
        editor = edited("x")
        with editor.tried():
            self.assertEqual(editor.replace(1, 1, "+2"), 3)
            self.assertEqual(editor.texts(), ["", "x", "x+2"])
            self.assertEqual(editor.layout(), layout(FONT, parse("x+2"), 1))
            self.assertEqual(len(editor), 2)
        self.assertEqual(editor.texts(), ["", "x"])

    def test_a_trial_that_ends_by_an_error(self):
        def failing(editor, error):
            with self.assertRaises(type(error)) as caught:
                with editor.tried():
                    editor.undo()
                    editor.replace(0, 0, "x")
                    editor.layout()
                    raise error
            self.assertIs(caught.exception, error)
        for editor in self.editors():
            for error in (RuntimeError("enough"), HistoryFull(), KeyboardInterrupt()):
                self.check_kept(editor, lambda: failing(editor, error))

    def test_a_trial_that_ends_by_an_error_of_the_editor(self):
        editor = edited("x")

        def failing():
            with self.assertRaises(UnknownSymbol):
                with editor.tried():
                    editor.set_style(2)
                    editor.replace(0, 0, "y")
        self.check_kept(editor, failing)

    def test_a_trial_left_early(self):
        def leaving(editor):
            for _ in range(3):
                with editor.tried():
                    editor.undo()
                    editor.set_style(3)
                    break
        for editor in self.editors():
            self.check_kept(editor, lambda: leaving(editor))

    def test_as_it_was_when_the_trial_was_made(self):
        editor = edited("x")
        trial = editor.tried()
        before = state(editor)
        editor.replace(1, 1, "2")
        editor.layout()
        with trial:
            self.assertEqual(editor.texts(), ["", "x", "x2"])
            editor.undo()
        self.assertEqual(state(editor), before)
        self.assertIs(editor.redo(), False)

    def test_a_trial_that_is_never_entered_changes_nothing(self):
        editor = edited("x")
        editor.tried()
        editor.replace(1, 1, "2")
        self.assertEqual(editor.texts(), ["", "x", "x2"])

    def test_a_trial_may_be_used_again(self):
        editor = edited("x")
        trial = editor.tried()
        before = state(editor)
        for _ in range(3):
            with trial as held:
                held.replace(0, 0, "2")
                held.layout()
                self.assertEqual(held.texts(), ["", "x", "2x"])
            self.assertEqual(state(editor), before)

    def test_trials_within_trials(self):
        editor = edited("x")
        before = state(editor)
        with editor.tried():
            editor.replace(1, 1, "2")
            with editor.tried():
                editor.replace(0, 0, "+")
                self.assertEqual(editor.texts(), ["", "x", "x2", "+x2"])
            self.assertEqual(editor.texts(), ["", "x", "x2"])
        self.assertEqual(state(editor), before)

    def test_redo_behind_a_trial(self):
        editor = edited("x", "+")
        editor.undo()
        with editor.tried():
            editor.replace(0, 0, "2")
            self.assertIs(editor.redo(), False)
        self.assertIs(editor.redo(), True)
        self.assertEqual(editor.texts(), ["", "x", "x+"])
        with editor.tried():
            editor.undo()
            editor.undo()
        self.assertIs(editor.redo(), False)
        self.assertEqual(len(editor), 2)

    def test_room_behind_a_trial(self):
        editor = full("x")
        with editor.tried():
            editor.undo()
        with self.assertRaises(HistoryFull):
            editor.set_style(0)
        editor.undo()
        with editor.tried():
            editor.set_style(0)
        editor.set_style(0)

    def test_what_a_layout_behind_a_trial_measures(self):
        editor = Editor(FONT, 1)
        editor.replace(0, 0, "x^2")
        with editor.tried():
            editor.layout()
            self.assertEqual(editor.measured, 2)
        self.assertEqual(editor.measured, 0)
        editor.layout()
        self.assertEqual(editor.measured, 2)
        with editor.tried():
            editor.replace(0, 3, "2")
            editor.layout()
            self.assertEqual(editor.measured, 3)
        self.assertEqual(editor.measured, 2)
        editor.layout()
        self.assertEqual(editor.measured, 2)
        editor.replace(0, 3, "2")
        editor.layout()
        self.assertEqual(editor.measured, 3)

    def test_foresee_tells_what_replace_would_give(self):
        for editor in (edited("x^2"), edited("x^2")):
            for first, last, text in ((0, 0, ""), (1, 2, "x+x"), (0, 3, "@frac x 2"), (3, 3, "22")):
                self.check_kept(editor, lambda: self.assertEqual(
                    editor.foresee(first, last, text), edited("x^2").replace(first, last, text)))
            editor.layout()

    def test_foresee_ahead_of_a_layout_and_behind_one(self):
        editor = Editor(FONT, 1)
        editor.replace(0, 0, "x^2")
        self.assertEqual(editor.foresee(0, 3, "2"), 1)
        self.assertEqual(editor.measured, 0)
        editor.layout()
        self.assertEqual(editor.measured, 2)
        self.assertEqual(editor.foresee(0, 3, "2"), 1)
        self.assertEqual(editor.measured, 2)
        editor.layout()
        self.assertEqual(editor.measured, 2)
        editor.replace(0, 3, "2")
        editor.layout()
        self.assertEqual(editor.measured, 3)

    def test_foresee_at_forty_edits(self):
        editor = full("x")
        self.check_kept(editor, lambda: self.assertRaises(HistoryFull, editor.foresee, 0, 0, "x"))
        self.check_kept(editor, lambda: self.assertRaises(NoSuchCaret, editor.foresee, 0, 9, "x"))
        editor.undo()
        self.check_kept(editor, lambda: self.assertEqual(editor.foresee(0, 0, "x"), 1))
        self.assertIs(editor.redo(), True)


if __name__ == "__main__":
    unittest.main()
