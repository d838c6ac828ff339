"""How rows, nuclei and scripts are put together of pieces that are set already.

A style is that of the row in which the item stands, also where its own rows are in another one.
"""

from mathgalley.fonts import AXIS, GAP, ROOT_SIGN, RULE, SHIFT, THICK, length_of
from mathgalley.pieces import Piece
from mathgalley.spacing import space_between


def row_piece(font, style, kinds, items):
    """The pieces of items side by side; kinds are the classes of the items."""
    edges = edges_of(font, style, kinds, [item.width for item in items])
    piece = Piece(edges[-1], highest(items), deepest(items))
    piece.put_row(style, edges)
    for item, x in zip(items, edges):
        piece.put(item, x, 0)
    return piece


def edges_of(font, style, kinds, widths):
    """The list of the left edges of items and, at last, of their right end."""
    x = 0
    edges = []
    for k, width in enumerate(widths):
        if k > 0:
            x += space_between(font, kinds[k - 1], kinds[k], style)
        edges.append(x)
        x += width
    edges.append(x)
    return edges


def highest(pieces):
    return max([piece.height for piece in pieces], default=0)


def deepest(pieces):
    return max([piece.depth for piece in pieces], default=0)


def widest(pieces):
    return max([piece.width for piece in pieces])


def symbol_piece(font, style, name):
    width, height, depth = font.metrics(name, style)
    piece = Piece(width, height, depth)
    piece.put_sign(name, width, height, depth)
    return piece


def fraction_piece(font, style, over, under):
    axis = length_of(font, AXIS, style)
    rule = length_of(font, RULE, style)
    gap = length_of(font, GAP, style)
    width = widest([over, under])
    above = axis + rule + gap + over.depth
    below = axis - gap - under.height
    piece = Piece(width, above + over.height, max(0, under.depth - below))
    piece.put(over, (width - over.width) // 2, above)
    piece.put_rule(0, axis, width, rule)
    piece.put(under, (width - under.width) // 2, below)
    return piece


def root_piece(font, style, row):
    rule = length_of(font, RULE, style)
    gap = length_of(font, GAP, style)
    length = font.stretched(ROOT_SIGN, style, row.height + row.depth + gap + rule)
    sign_width = font.metrics(ROOT_SIGN, style)[0]
    height = length - row.depth
    piece = Piece(sign_width + row.width, height, row.depth)
    piece.put_sign(ROOT_SIGN, sign_width, height, row.depth)
    piece.put_rule(sign_width, height - rule, row.width, rule)
    piece.put(row, sign_width, 0)
    return piece


def fence_piece(font, style, opening, closing, row):
    """A row between two delimiters, either of which may be None."""
    inner = [delimiter_piece(font, style, opening, row), row, delimiter_piece(font, style, closing, row)]
    whole = Piece(sum([piece.width for piece in inner]), highest(inner), deepest(inner))
    x = 0
    for piece in inner:
        whole.put(piece, x, 0)
        x += piece.width
    return whole


def delimiter_piece(font, style, name, row):
    """A delimiter that reaches as far as the row on both sides of the axis; an empty piece for None."""
    if name is None:
        return Piece(0, 0, 0)
    axis = length_of(font, AXIS, style)
    length = font.stretched(name, style, 2 * max(row.height - axis, row.depth + axis))
    width = font.metrics(name, style)[0]
    height = axis + (length + 1) // 2
    depth = length // 2 - axis
    piece = Piece(width, height, depth)
    piece.put_sign(name, width, height, depth)
    return piece


def grid_piece(font, style, rows):
    """A grid of a list of lists of cells, all alike long."""
    axis = length_of(font, AXIS, style)
    columns = [widest([cells[k] for cells in rows]) for k in range(len(rows[0]))]
    lefts = starts_of(columns, 2 * length_of(font, THICK, style))
    tops = starts_of([highest(cells) + deepest(cells) for cells in rows], 2 * length_of(font, GAP, style))
    total = tops[-1]
    height = axis + (total + 1) // 2
    piece = Piece(lefts[-1], height, max(0, total - height))
    for line, top in zip(rows, tops):
        baseline = height - top - highest(line)
        for cell, column, left in zip(line, columns, lefts):
            piece.put(cell, left + (column - cell.width) // 2, baseline)
    return piece


def starts_of(lengths, distance):
    """Where lengths begin that lie behind one another, a distance apart; at last where all of them end."""
    starts = []
    at = 0
    for length in lengths:
        starts.append(at)
        at += length + distance
    starts.append(at - distance)
    return starts


def limits_piece(font, style, nucleus, below, above):
    """Scripts under and over their nucleus; either of them may be None."""
    gap = length_of(font, GAP, style)
    width = widest([piece for piece in (nucleus, below, above) if piece is not None])
    height = nucleus.height
    depth = nucleus.depth
    if above is not None:
        height += gap + above.depth + above.height
    if below is not None:
        depth += gap + below.height + below.depth
    piece = Piece(width, height, depth)
    piece.put(nucleus, (width - nucleus.width) // 2, 0)
    if below is not None:
        piece.put(below, (width - below.width) // 2, below.depth - depth)
    if above is not None:
        piece.put(above, (width - above.width) // 2, height - above.height)
    return piece


def scripts_piece(font, style, nucleus, below, above):
    """Scripts behind their nucleus; either of them may be None."""
    up, down = script_shifts(font, style, nucleus, below, above)
    height = nucleus.height
    depth = nucleus.depth
    if below is not None:
        height = max(height, below.height - down)
        depth = max(depth, down + below.depth)
    if above is not None:
        height = max(height, up + above.height)
        depth = max(depth, above.depth - up)
    scripts = [piece for piece in (below, above) if piece is not None]
    piece = Piece(nucleus.width + widest(scripts), height, depth)
    piece.put(nucleus, 0, 0)
    if below is not None:
        piece.put(below, nucleus.width, -down)
    if above is not None:
        piece.put(above, nucleus.width, up)
    return piece


def script_shifts(font, style, nucleus, below, above):
    """How far up the superscript stands, and how far down the subscript."""
    shift = length_of(font, SHIFT, style)
    up = max(shift, nucleus.height - shift // 2)
    down = max(shift, nucleus.depth + shift // 2)
    if below is not None and above is not None:
        down = max(down, above.depth + below.height + length_of(font, GAP, style) - up)
    return (up, down)
