"""Formulas with one of their rows changed."""

from mathgalley.sources import nucleus_rows, rows_in, rows_of


def with_row(row, number, new):
    """A row with another row in the place of the one that has a number in it; 0 is the row itself."""
    if number == 0:
        return new
    # The numbers of the rows in the items begin behind that of the row itself.
    start = 1
    changed = []
    for item in row:
        rows = rows_in(item)
        counts = [len(rows_of(inner)) for inner in rows]
        changed.append(item_with_rows(item, rows_with(rows, counts, number - start, new)))
        start += sum(counts)
    return tuple(changed)


def rows_with(rows, counts, number, new):
    """The list of rows, changed where a number counts; counts tell how many numbers each of them has."""
    changed = []
    for row, count in zip(rows, counts):
        changed.append(with_row(row, number, new) if 0 <= number < count else row)
        number -= count
    return changed


def item_with_rows(item, rows):
    """An item with other rows in it, listed in their order."""
    nucleus, below, above = item
    many = len(nucleus_rows(nucleus))
    lower = None if below is None else rows[many]
    upper = None if above is None else rows[-1]
    return (nucleus_with_rows(nucleus, rows[:many]), lower, upper)


def nucleus_with_rows(nucleus, rows):
    kind = nucleus[0]
    if kind == "symbol":
        return nucleus
    if kind == "frac":
        return (kind, rows[0], rows[1])
    if kind == "fence":
        return (kind, nucleus[1], nucleus[2], rows[0])
    if kind == "grid":
        many = len(nucleus[1][0])
        return (kind, tuple([tuple(rows[k:k + many]) for k in range(0, len(rows), many)]))
    return (kind, rows[0])
