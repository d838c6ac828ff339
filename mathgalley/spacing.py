"""The classes of the items of a row, and the spaces between them."""

from mathgalley.fonts import THIN, length_of

KINDS = ("ord", "op", "bin", "rel", "open", "close", "punct", "inner")

# For a left class the spaces ahead of the classes KINDS: none, thin, medium or
# thick (0 to 3); the same below 0, but then none in the styles 2 and 3.
SPACES = {
    "ord": (0, 1, -2, -3, 0, 0, 0, -1),
    "op": (1, 1, 0, -3, 0, 0, 0, -1),
    "bin": (-2, -2, 0, 0, -2, 0, 0, -2),
    "rel": (-3, -3, 0, 0, -3, 0, 0, -3),
    "open": (0, 0, 0, 0, 0, 0, 0, 0),
    "close": (0, 1, -2, -3, 0, 0, 0, -1),
    "punct": (-1, -1, 0, -1, -1, -1, -1, -1),
    "inner": (-1, 1, -2, -3, -1, 0, -1, -1),
}

# A bin has no left operand behind these, and no right one ahead of those.
NO_OPERANDS = ("bin", "op", "rel", "open", "punct")
NO_OPERANDS_BEHIND = ("rel", "close", "punct")


def classes_of(font, row):
    """The list of the classes of the items of a row."""
    own = [nucleus_class(font, item[0]) for item in row]
    found = []
    for k, kind in enumerate(own):
        alone = kind == "bin" and not has_operands(found, own[k + 1:])
        found.append("ord" if alone else kind)
    return found


def nucleus_class(font, nucleus):
    kind = nucleus[0]
    if kind == "symbol":
        return font.class_of(nucleus[1])
    return "ord" if kind in ("group", "root") else "inner"


def has_operands(ahead, behind):
    """Whether a bin stays one, between items of the classes ahead and nuclei of the classes behind."""
    if len(ahead) == 0 or len(behind) == 0:
        return False
    return ahead[-1] not in NO_OPERANDS and behind[0] not in NO_OPERANDS_BEHIND


def space_between(font, left, right, style):
    """The space between neighbouring items of the classes left and right."""
    space = SPACES[left][KINDS.index(right)]
    if space == 0 or (space < 0 and style > 1):
        return 0
    return length_of(font, THIN + abs(space) - 1, style)
