"""Which values are of the kinds that the package tells apart."""


def is_integer(value):
    """Whether a value is an integer; True and False are none."""
    return isinstance(value, int) and not isinstance(value, bool)


def is_number(value):
    """Whether a value is an integer from 0 on."""
    return is_integer(value) and value >= 0


def is_side(value):
    """Whether a value numbers one of the four sides."""
    return is_integer(value) and 0 <= value <= 3


def is_place(value):
    """Whether a value is a tuple of two integers."""
    return isinstance(value, tuple) and len(value) == 2 and is_integer(value[0]) and is_integer(value[1])


def is_glue(value):
    """Whether a value is a tuple of a label and a strength of 0, 1 or 2."""
    return isinstance(value, tuple) and len(value) == 2 and is_integer(value[1]) and 0 <= value[1] <= 2
