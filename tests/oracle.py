"""A second reading of the grammar, for tests only: a stack of what must follow.

It knows nothing of formulas; it tells with which token no text can go on. It shares
no code with the program, so that both have to be wrong in the same way to agree.
"""

import re

SYMBOL = re.compile(r"@(?!(?:frac|root|left|right|grid)$)[a-z]{1,8}|[-a-zA-Z0-9+*/=<>()\[\],;:!?.']")


def is_symbol(token):
    return SYMBOL.fullmatch(token) is not None


class Stack:
    """What must follow, the next one last.

    Entries are "argument", "delimiter", "brace" (an opening one for a grid), and
    open rows ["row", kind, scripts that the item at hand may have], kind one of
    "text", "braces", "fence", "grid"; for grids also the tuple number, the cell
    number and how many cells the first tuple has (None if this is not known).
    """

    def __init__(self):
        self.entries = [["row", "text", ""]]

    def complete(self):
        return len(self.entries) == 1

    def take(self, token):
        """Whether a text can go on with this token; passes it if so."""
        top = self.entries[-1]
        if top == "argument":
            return self.take_argument(token)
        if top == "delimiter":
            self.entries.pop()
            return is_symbol(token)
        if top == "brace":
            self.entries.pop()
            self.entries.append(["row", "grid", "", 1, 1, None])
            return token == "{"
        return self.take_in_row(top, token)

    def take_argument(self, token):
        self.entries.pop()
        if token == "{":
            self.entries.append(["row", "braces", ""])
            return True
        return is_symbol(token)

    def take_in_row(self, row, token):
        if token in ("^", "_"):
            if token not in row[2]:
                return False
            row[2] = row[2].replace(token, "")
            self.entries.append("argument")
            return True
        if is_symbol(token) or token in ("{", "@frac", "@root", "@left", "@grid"):
            row[2] = "^_"
            self.entries.extend({
                "{": [["row", "braces", ""]],
                "@frac": ["argument", "argument"],
                "@root": ["argument"],
                "@left": ["delimiter", ["row", "fence", ""], "delimiter"],
                "@grid": ["brace"],
            }.get(token, []))
            return True
        return self.end_row(row, token)

    def end_row(self, row, token):
        kind = row[1]
        if kind == "grid":
            return self.end_cell(row, token)
        self.entries.pop()
        return (kind, token) in (("braces", "}"), ("fence", "@right"))

    def end_cell(self, row, token):
        row[2] = ""
        _, _, _, tuples, cells, many = row
        if token == "&":
            row[4] += 1
            return cells < (6 if many is None else many)
        if many not in (None, cells):
            return False
        if token == "~":
            row[3:] = [tuples + 1, 1, cells]
            return tuples < 6
        self.entries.pop()
        return token == "}"


def fault_of(tokens):
    """The index of the first token with which no text can go on, len(tokens) if more must follow, or None."""
    stack = Stack()
    for k, token in enumerate(tokens):
        if not stack.take(token):
            return k
    return None if stack.complete() else len(tokens)


def is_deep(tokens):
    """Whether a row begins that is nested in more than 7 others, ahead of the first fault or at its place."""
    stack = Stack()
    for token in tokens:
        argument = stack.entries[-1] == "argument"
        if not stack.take(token):
            return False
        rows = [entry for entry in stack.entries if isinstance(entry, list)]
        # Behind @left the row is on the stack already, but it begins behind the delimiter.
        nested = len(rows) - (stack.entries[-1] == "delimiter" and token == "@left")
        # The row of an argument that is a symbol is not on the stack.
        if nested + (argument and token != "{") > 8:
            return True
    return False
