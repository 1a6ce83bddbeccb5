"""Which values are of the kinds that the package tells apart, and the order of data by their repr."""


def is_integer(value):
    """Whether a value is an integer; True and False are none."""
    return isinstance(value, int) and not isinstance(value, bool)


def is_number(value):
    """Whether a value is an integer from 0 on."""
    return is_integer(value) and value >= 0


def is_side(value):
    """Whether a value numbers one of the four sides."""
    return is_integer(value) and 0 <= value <= 3


def is_place(value):
    """Whether a value is a tuple of two integers."""
    return isinstance(value, tuple) and len(value) == 2 and is_integer(value[0]) and is_integer(value[1])


def is_glue(value):
    """Whether a value is a tuple of a label and a strength of 0, 1 or 2."""
    return isinstance(value, tuple) and len(value) == 2 and is_integer(value[1]) and 0 <= value[1] <= 2


def is_datum(value):
    """Whether a value is an integer, a string, None, or a tuple of data."""
    todo = [value]
    while todo:
        item = todo.pop()
        if isinstance(item, tuple):
            todo.extend(item)
        elif item is not None and not isinstance(item, str) and not is_integer(item):
            return False
    return True


def is_symbol(value):
    """Whether a value can be a state or a letter: a datum, but not None."""
    return value is not None and is_datum(value)


def is_tuple_of(many, value):
    """Whether a value is a tuple of so many items."""
    return isinstance(value, tuple) and len(value) == many


def is_list(value):
    """Whether a value can be passed as a list: it is a list or a tuple."""
    return isinstance(value, (list, tuple))


def by_repr(values):
    """The tuple of some data, ordered by their repr."""
    return tuple(sorted(values, key=lambda value: repr(value)))
