"""Editors that several tests use, and what can be asked of an editor."""

from mathgalley.editors import Editor
from mathgalley.fonts import Font
from samples import LENGTHS, SYMBOLS

FONT = Font(SYMBOLS + (("@abcdefgh", "ord", 1, 1, 1),), LENGTHS)


def edited(*texts, style=1):
    """An editor in which each text was put behind what was there."""
    editor = Editor(FONT, style)
    for text in texts:
        end = len(editor.carets()) - 1
        editor.replace(end, end, text)
    return editor


def full(text=""):
    """An editor with 40 edits, the first one of which put in a text."""
    editor = edited(text)
    for _ in range(39):
        editor.set_style(1)
    return editor


def state(editor):
    """All that can be asked without a change."""
    return (editor.font, editor.formula, editor.style, editor.measured, editor.texts(), list(editor), len(editor))
