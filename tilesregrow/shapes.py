"""Machines of sweeps that make told shapes.

Row 0 tells a number by the digits "0" and "1", the digit of 1 in column 0. Each rightward row adds 1 to it, until it
runs over; each leftward row hands all letters on.
"""

from tilesregrow.directions import direction_of
from tilesregrow.errors import BadNumber
from tilesregrow.kinds import is_integer, is_number
from tilesregrow.sweeps import Sweeps, run

MOST_TOWER_ROWS = 1000000

MOST_SQUARE_ROWS = 10000

MOST_STEPS = 10000

DIGITS = ("0", "1")

LETTERS = ("0", "1", "x")


def lengths_of(sweeps, most):
    """The tuple of the lengths of the rows of a machine."""
    return tuple([len(row) for row in run(sweeps, most)])


def check_within(what, number, low, high):
    """What is passed as the number with this word must be an integer from low to high."""
    if not is_integer(number) or not low <= number <= high:
        raise BadNumber(what, number)


def digits_needed(many):
    """The least number of digits, from 2 on, that tell as many numbers."""
    return max(2, (many - 1).bit_length())


def digits_that_run_over(many):
    """The tuple of the digits of a number that runs over when 1 has been added so many times, from 1 on."""
    length = digits_needed(many)
    number = (1 << length) - many
    return tuple([DIGITS[(number >> column) & 1] for column in range(length)])


def handing_steps(nodes):
    """The steps of some pairs (direction, state), which hand all letters on."""
    return {(direction, state, letter): (state, letter) for direction, state in nodes for letter in LETTERS}


def adding_machine(first, grown, turn):
    """The machine that adds 1 in each rightward row.

    The turn of a row in which the number does not run over tells the extra letter grown, or None; the turn of the row
    in which it does is the last one.
    """
    steps = handing_steps([("l", "back"), ("r", "keep"), ("l", "end")])
    steps[("r", "add", "0")] = ("keep", "1")
    steps[("r", "add", "1")] = ("add", "0")
    steps[("r", "add", "x")] = ("add", "x")
    turns = {("l", "back"): ("add", None), ("r", "keep"): ("back", grown), ("r", "add"): turn, ("l", "end"): None}
    return Sweeps(first, "back", steps, turns)


def counting_machine(rows, padding):
    """The machine with so many rows, whose digits have the letters of padding behind them."""
    many = (rows - 1) // 2
    if many == 0:
        return Sweeps(("0", "0") + padding, "end", handing_steps([("l", "end")]), {("l", "end"): None})
    turn = None if rows % 2 == 1 else ("end", None)
    return adding_machine(digits_that_run_over(many) + padding, None, turn)


def tower(rows):
    """The machine of a tower: so many rows, all of as many digits."""
    check_within("rows", rows, 2, MOST_TOWER_ROWS)
    return counting_machine(rows, ())


def square(rows):
    """The machine of a square: so many rows, all of so many letters."""
    check_within("rows", rows, 2, MOST_SQUARE_ROWS)
    length = digits_needed((rows - 1) // 2)
    return counting_machine(rows, ("x",) * (rows - length))


def stairs(steps):
    """The machine of stairs: so many rightward rows, each but the last one with one letter more than the row below."""
    check_within("steps", steps, 1, MOST_STEPS)
    return adding_machine(digits_that_run_over(steps), "x", None)


def are_lengths(lengths):
    """Whether a value tells the lengths of the rows of a machine."""
    if not isinstance(lengths, tuple) or len(lengths) < 2 or not all([is_number(length) for length in lengths]):
        return False
    if lengths[0] < 2:
        return False
    for row in range(1, len(lengths)):
        # Only rightward rows grow, and at the turn that ends the whole none does.
        most = 1 if row % 2 == 0 and row < len(lengths) - 1 else 0
        if not 0 <= lengths[row] - lengths[row - 1] <= most:
            return False
    return True


def shaped(lengths):
    """The machine whose rows have these lengths."""
    if not are_lengths(lengths):
        raise BadNumber("lengths", lengths)
    steps = {}
    turns = {}
    for row in range(1, len(lengths)):
        direction = direction_of(row)
        state = f"row{row}"
        steps[(direction, state, "x")] = (state, "x")
        extra = "x" if lengths[row] > lengths[row - 1] else None
        turns[(direction, state)] = None if row == len(lengths) - 1 else (f"row{row + 1}", extra)
    return Sweeps(("x",) * lengths[0], "row1", steps, turns)
