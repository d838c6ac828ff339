"""Pieces: boxes with the signs, rules and rows in them."""


class Piece:
    """A box with its parts and its rows, as seen from its left edge and baseline.

    A row is a tuple (x, y, style, box, edges); the rows are in preorder.
    """

    def __init__(self, width, height, depth):
        self.width = width
        self.height = height
        self.depth = depth
        self.parts = []
        self.rows = []

    def box(self):
        return (self.width, self.height, self.depth)

    def layout(self):
        """The pair of the box and the tuple of the parts."""
        return (self.box(), tuple(self.parts))

    def put_sign(self, name, width, height, depth):
        """Put a sign at the left edge, on the baseline."""
        self.parts.append(("sign", name, 0, 0, width, height, depth))

    def put_rule(self, x, y, width, height):
        self.parts.append(("rule", x, y, width, height))

    def put_row(self, style, edges):
        """Make this piece a row, ahead of the rows of its items."""
        self.rows.append((0, 0, style, self.box(), tuple(edges)))

    def put(self, piece, x, y):
        """Put another piece with its left edge and baseline at a point."""
        parts = [moved_part(part, x, y) for part in piece.parts]
        rows = [moved_row(row, x, y) for row in piece.rows]
        self.parts.extend(parts)
        self.rows.extend(rows)


def moved_part(part, x, y):
    """A part with its point, which stands behind the name of a sign, moved."""
    at = 2 if part[0] == "sign" else 1
    return part[:at] + (part[at] + x, part[at + 1] + y) + part[at + 2:]


def moved_row(row, x, y):
    left, baseline, style, box, edges = row
    return (left + x, baseline + y, style, box, tuple([edge + x for edge in edges]))
