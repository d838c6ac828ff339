"""A second setting of formulas, for comparison: sizes first, then drawn at points of the whole.

It reads only the tuples of a font, and shares nothing with the package.
"""

TABLE = """
ord    0   1   (2) (3) 0   0   0   (1)
op     1   1   0   (3) 0   0   0   (1)
bin    (2) (2) 0   0   (2) 0   0   (2)
rel    (3) (3) 0   0   (3) 0   0   (3)
open   0   0   0   0   0   0   0   0
close  0   1   (2) (3) 0   0   0   (1)
punct  (1) (1) 0   (1) (1) (1) (1) (1)
inner  (1) 1   (2) (3) (1) 0   (1) (1)
"""
NAMES = ["ord", "op", "bin", "rel", "open", "close", "punct", "inner"]
DIGITS = {
    (line.split()[0], right): digit
    for line in TABLE.strip().splitlines() for right, digit in zip(NAMES, line.split()[1:])
}


def to_style(number, style):
    return [number, number, number * 7 // 10, number // 2][style]


def space(font, left, right, style):
    digit = DIGITS[left, right]
    if digit.startswith("(") and style in (2, 3):
        return 0
    which = int(digit.strip("()"))
    return 0 if which == 0 else to_style(font.lengths[3 + which], style)


class Drawing:
    """Sets formulas with one font; parts and rows of what was drawn last are in parts and rows."""

    def __init__(self, font):
        self.font = font
        self.table = {entry[0]: entry[1:] for entry in font.symbols}
        self.parts = []
        self.rows = []
        self.known = {}

    def drawn(self, row, style):
        self.parts = []
        self.rows = []
        self.draw_row(row, style, 0, 0)
        return self.size(row, style), self.parts, self.rows

    # Lengths and symbols

    def lengths(self, style):
        axis, rule, gap, shift, _, _, thick, _ = [to_style(length, style) for length in self.font.lengths]
        return axis, max(rule, 1), gap, shift, thick

    def metrics(self, name, style):
        return tuple(to_style(number, style) for number in self.table[name][1:])

    def stretched(self, name, style, least):
        _, height, depth = self.metrics(name, style)
        length = height + depth
        while length < least:
            length += max(to_style(self.font.lengths[7], style), 1)
        return length

    # Classes

    def own_class(self, item):
        kind = item[0][0]
        if kind == "symbol":
            return self.table[item[0][1]][0]
        return {"group": "ord", "root": "ord"}.get(kind, "inner")

    def classes(self, row):
        own = [self.own_class(item) for item in row]
        classes = []
        for k in range(len(own)):
            first = k == 0 or classes[-1] in ["bin", "op", "rel", "open", "punct"]
            last = k == len(own) - 1 or own[k + 1] in ["rel", "close", "punct"]
            classes.append("ord" if own[k] == "bin" and (first or last) else own[k])
        return classes

    def edges(self, row, style):
        classes = self.classes(row)
        edges = [0]
        for k, item in enumerate(row):
            if k:
                edges[-1] += space(self.font, classes[k - 1], classes[k], style)
            edges.append(edges[-1] + self.item_size(item, style)[0])
        return edges

    # Sizes

    def size(self, row, style):
        if (row, style) not in self.known:
            self.known[row, style] = self.row_size(row, style)
        return self.known[row, style]

    def row_size(self, row, style):
        sizes = [self.item_size(item, style) for item in row]
        return (self.edges(row, style)[-1], max([0] + [s[1] for s in sizes]), max([0] + [s[2] for s in sizes]))

    def item_size(self, item, style):
        nucleus, below, above = item
        width, height, depth = self.nucleus_size(nucleus, style)
        gap = self.lengths(style)[2]
        small = [2, 2, 3, 3][style]
        below_size = None if below is None else self.size(below, small)
        above_size = None if above is None else self.size(above, small)
        widths = [s[0] for s in (below_size, above_size) if s]
        if self.has_limits(nucleus, style):
            total = max([width] + widths)
            if above_size:
                height += gap + above_size[2] + above_size[1]
            if below_size:
                depth += gap + below_size[1] + below_size[2]
            return (total, height, depth)
        if not widths:
            return (width, height, depth)
        up, down = self.shifts(item, style)
        if above_size:
            height, depth = max(height, up + above_size[1]), max(depth, above_size[2] - up)
        if below_size:
            height, depth = max(height, below_size[1] - down), max(depth, down + below_size[2])
        return (width + max(widths), height, depth)

    def has_limits(self, nucleus, style):
        return style == 0 and nucleus[0] == "symbol" and self.table[nucleus[1]][0] == "op"

    def shifts(self, item, style):
        nucleus, below, above = item
        _, height, depth = self.nucleus_size(nucleus, style)
        _, _, gap, shift, _ = self.lengths(style)
        up = max(shift, height - shift // 2)
        down = max(shift, depth + shift // 2)
        if below is not None and above is not None:
            small = [2, 2, 3, 3][style]
            down = max(down, self.size(above, small)[2] + self.size(below, small)[1] + gap - up)
        return up, down

    def nucleus_size(self, nucleus, style):
        kind = nucleus[0]
        axis, rule, gap, _, _ = self.lengths(style)
        if kind == "symbol":
            return self.metrics(nucleus[1], style)
        if kind == "group":
            return self.size(nucleus[1], style)
        if kind == "frac":
            inner = [1, 2, 3, 3][style]
            wn, hn, dn = self.size(nucleus[1], inner)
            wd, hd, dd = self.size(nucleus[2], inner)
            return (max(wn, wd), axis + rule + gap + dn + hn, max(0, gap + hd + dd - axis))
        if kind == "root":
            w, h, d = self.size(nucleus[1], style)
            t = self.stretched("@root", style, h + d + gap + rule)
            return (self.metrics("@root", style)[0] + w, t - d, d)
        if kind == "fence":
            return self.fence_size(nucleus, style)
        return self.grid_size(nucleus, style)

    def fence_size(self, nucleus, style):
        width, height, depth = self.size(nucleus[3], style)
        for name in nucleus[1:3]:
            if name is not None:
                w, h, d = self.delimiter(name, nucleus[3], style)
                width, height, depth = width + w, max(height, h), max(depth, d)
        return (width, height, depth)

    def delimiter(self, name, row, style):
        axis = self.lengths(style)[0]
        _, h, d = self.size(row, style)
        t = self.stretched(name, style, 2 * max(h - axis, d + axis))
        return (self.metrics(name, style)[0], axis + (t + 1) // 2, t // 2 - axis)

    def grid_tables(self, nucleus, style):
        sizes = [[self.size(cell, [1, 1, 2, 3][style]) for cell in cells] for cells in nucleus[1]]
        widths = [max(s[0] for s in column) for column in zip(*sizes)]
        heights = [max(s[1] for s in line) for line in sizes]
        depths = [max(s[2] for s in line) for line in sizes]
        return sizes, widths, heights, depths

    def grid_size(self, nucleus, style):
        axis, _, gap, _, thick = self.lengths(style)
        _, widths, heights, depths = self.grid_tables(nucleus, style)
        total = sum(heights) + sum(depths) + (len(heights) - 1) * 2 * gap
        top = axis + (total + 1) // 2
        return (sum(widths) + (len(widths) - 1) * 2 * thick, top, max(0, total - top))

    # Drawing

    def sign(self, name, x, y, box):
        self.parts.append(("sign", name, x, y) + tuple(box))

    def draw_row(self, row, style, x, y):
        edges = self.edges(row, style)
        self.rows.append((x, y, style, self.size(row, style), tuple(x + edge for edge in edges)))
        for item, edge in zip(row, edges):
            self.draw_item(item, style, x + edge, y)

    def draw_item(self, item, style, x, y):
        nucleus, below, above = item
        small = [2, 2, 3, 3][style]
        width, height, depth = self.nucleus_size(nucleus, style)
        whole = self.item_size(item, style)
        if self.has_limits(nucleus, style):
            self.draw_nucleus(nucleus, style, x + (whole[0] - width) // 2, y)
            gap = self.lengths(style)[2]
            if below is not None:
                w, h, _ = self.size(below, small)
                self.draw_row(below, small, x + (whole[0] - w) // 2, y - (depth + gap + h))
            if above is not None:
                w, _, d = self.size(above, small)
                self.draw_row(above, small, x + (whole[0] - w) // 2, y + height + gap + d)
            return
        up, down = self.shifts(item, style)
        self.draw_nucleus(nucleus, style, x, y)
        if below is not None:
            self.draw_row(below, small, x + width, y - down)
        if above is not None:
            self.draw_row(above, small, x + width, y + up)

    def draw_nucleus(self, nucleus, style, x, y):
        kind = nucleus[0]
        if kind == "symbol":
            self.sign(nucleus[1], x, y, self.metrics(nucleus[1], style))
        elif kind == "group":
            self.draw_row(nucleus[1], style, x, y)
        elif kind == "frac":
            self.draw_fraction(nucleus, style, x, y)
        elif kind == "root":
            width, top, depth = self.nucleus_size(nucleus, style)
            sign_width = self.metrics("@root", style)[0]
            rule = self.lengths(style)[1]
            self.sign("@root", x, y, (sign_width, top, depth))
            self.parts.append(("rule", x + sign_width, y + top - rule, width - sign_width, rule))
            self.draw_row(nucleus[1], style, x + sign_width, y)
        elif kind == "fence":
            self.draw_fence(nucleus, style, x, y)
        else:
            self.draw_grid(nucleus, style, x, y)

    def draw_fraction(self, nucleus, style, x, y):
        axis, rule, gap, _, _ = self.lengths(style)
        inner = [1, 2, 3, 3][style]
        wn, _, dn = self.size(nucleus[1], inner)
        wd, hd, _ = self.size(nucleus[2], inner)
        width = max(wn, wd)
        self.draw_row(nucleus[1], inner, x + (width - wn) // 2, y + axis + rule + gap + dn)
        self.parts.append(("rule", x, y + axis, width, rule))
        self.draw_row(nucleus[2], inner, x + (width - wd) // 2, y + axis - gap - hd)

    def draw_fence(self, nucleus, style, x, y):
        _, opening, closing, row = nucleus
        if opening is not None:
            box = self.delimiter(opening, row, style)
            self.sign(opening, x, y, box)
            x += box[0]
        self.draw_row(row, style, x, y)
        if closing is not None:
            self.sign(closing, x + self.size(row, style)[0], y, self.delimiter(closing, row, style))

    def draw_grid(self, nucleus, style, x, y):
        _, _, gap, _, thick = self.lengths(style)
        sizes, widths, heights, depths = self.grid_tables(nucleus, style)
        line_top = y + self.grid_size(nucleus, style)[1]
        for k, cells in enumerate(nucleus[1]):
            left = x
            for m, cell in enumerate(cells):
                inset = (widths[m] - sizes[k][m][0]) // 2
                self.draw_row(cell, [1, 1, 2, 3][style], left + inset, line_top - heights[k])
                left += widths[m] + 2 * thick
            line_top -= heights[k] + depths[k] + 2 * gap
