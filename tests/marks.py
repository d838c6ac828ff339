"""Carets as marks in the normal text: a second way to number them and to replace items, for tests only.

The normal text has the rows in the order in which their carets are numbered, so that the caret
of a number is the mark of this number in a normal text with a mark at each offset of each row.
"""

import re

from mathgalley.reading import Reader
from mathgalley.sources import text_of

MARK = "|"


def marked_row(row):
    return MARK + "".join(marked_item(item) + MARK for item in row)


def braced(row):
    return "{" + marked_row(row) + "}"


def marked_item(item):
    (kind, *parts), below, above = item
    if kind == "symbol":
        text = parts[0]
    elif kind == "fence":
        opening, closing, row = parts
        text = f"@left {opening or '.'}{marked_row(row)}@right {closing or '.'}"
    elif kind == "grid":
        text = "@grid{" + "~".join("&".join(map(marked_row, cells)) for cells in parts[0]) + "}"
    else:
        text = {"group": "", "frac": "@frac", "root": "@root"}[kind] + "".join(map(braced, parts))
    text += "" if below is None else "_" + braced(below)
    return text + ("" if above is None else "^" + braced(above))


def segments(formula):
    """The texts ahead of the first mark, between neighbouring ones, and behind the last one."""
    return marked_row(formula).split(MARK)


def replaced(formula, first, last, text):
    """The formula with the items of a text in the place of those between two carets of one row.

    It is as deep as a text may be, but it may be too large.
    """
    parts = segments(formula)
    return Reader(" ".join(parts[:first + 1] + [text] + parts[last + 1:])).read()


def between(formula, first, last):
    """The normal text of the items between two carets of one row."""
    return text_of(Reader(" ".join(segments(formula)[first + 1:last + 1])).read())


def places(formula):
    """For each caret its place: a row is numbered when its first mark comes, for this is preorder."""
    found = []
    # For each row that is open its number and offset, or None ahead of its first mark.
    open_rows = [None]
    rows = 0
    for token in re.findall(r"@left @[a-z]+|@left .|@[a-z]+|.", marked_row(formula)):
        if token in ("}", "@right", "&", "~"):
            open_rows.pop()
        if token == MARK:
            row, offset = open_rows[-1] or (rows, -1)
            rows += offset == -1
            open_rows[-1] = (row, offset + 1)
            found.append(open_rows[-1])
        elif token in ("{", "&", "~") or token.startswith("@left"):
            open_rows.append(None)
    return found
