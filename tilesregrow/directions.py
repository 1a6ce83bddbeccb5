"""The directions of walks: leftward and rightward."""

DIRECTIONS = ("l", "r")

OTHER_DIRECTION = {"l": "r", "r": "l"}

# How much a walk in a direction adds to the column with each step.
STRIDE = {"l": -1, "r": 1}


def is_direction(value):
    """Whether a value is one of the two directions."""
    return value in DIRECTIONS


def direction_of(row):
    """The direction of a row: that of row 0 and of all even rows is rightward."""
    return "l" if row % 2 else "r"


def in_order(direction, columns):
    """The tuple of some columns, or of what stands in them, from left to right, in the order of a walk; or back."""
    return tuple(columns)[::-1] if direction == "l" else tuple(columns)
