"""Programs as machines of sweeps: the rows tell the numbers of the registers."""

from tilesregrow.programs import check_values, is_over
from tilesregrow.sweeps import Sweeps


def first_row(program, values):
    """The row of the first numbers."""
    check_values(program, values)
    length = max(2, max([value.bit_length() for value in values]))
    colour = program.colours[0]
    return tuple([(tuple([(value >> column) & 1 for value in values]), colour) for column in range(length)])


def values_of(row):
    """The tuple of the numbers that a row tells."""
    numbers = [0 for _ in row[0][0]]
    for digits, _ in row[::-1]:
        numbers = [2 * number + digit for number, digit in zip(numbers, digits)]
    return tuple(numbers)


def steps_told(program, rows):
    """The tuple of the numbers that the rows with the indices 1, 3, 5, .. tell: those of the moments."""
    return tuple([values_of(row) for row in rows[1::2]])


def letters_of_program(program):
    """The list of all letters with digits and a colour of the program."""
    lots = [()]
    for _ in program.registers:
        lots = [(*digits, digit) for digits in lots for digit in (0, 1)]
    return [(digits, colour) for digits in lots for colour in program.colours]


def sweeps_of(program, values):
    """The machine of a program and its first numbers.

    It has the states that come when words of all letters are fed, whichever come from these numbers.
    """
    first = first_row(program, values)
    letters = letters_of_program(program)
    begin = ("back", 0, None)
    steps = {}
    turns = {}
    todo = [begin]
    while todo:
        state = todo.pop()
        direction = "l" if state[0] == "back" else "r"
        if (direction, state) in turns:
            continue
        for letter in letters:
            steps[(direction, state, letter)] = step_of(program, state, letter)
            todo.append(steps[(direction, state, letter)][0])
        turns[(direction, state)] = turn_of(program, state)
        if turns[(direction, state)] is not None:
            todo.append(turns[(direction, state)][0])
    return Sweeps(first, begin, steps, turns)


def step_of(program, state, letter):
    """The pair (next state, letter written) of a state at a letter."""
    word, order, told = state
    if word == "back":
        return (state, letter if told is None else with_digit(letter, told, 0))
    flag, written = done_at(program, program.orders[order], told, letter)
    return (("do", order, flag), written)


def turn_of(program, state):
    """What the turn of a state tells."""
    word, order, told = state
    if word == "do":
        return turn_behind(program, order, told)
    if is_over(program, order):
        return None
    # What adds or takes away 1 carries it from the first digit on.
    flag = 1 if program.orders[order][0] in ("inc", "dec") else 0
    return (("do", order, flag), None)


def turn_behind(program, number, flag):
    """What the turn behind an order tells: the next order, what is to be set to 0, and a digit that has no cell yet."""
    told = program.orders[number]
    word = told[0]
    follower, fix, extra = number + 1, None, None
    if word == "jump" or (word in ("ifzero", "ifsame") and flag == 0):
        follower = told[-1]
    elif word == "dec" and flag == 1:
        fix = told[1]
    elif word in ("inc", "add") and flag == 1:
        extra = with_digit((tuple([0 for _ in program.registers]), program.colours[0]), told[1], 1)
    return (("back", follower, fix), extra)


def with_digit(letter, place, digit):
    """The letter with this digit at the place of a register."""
    digits, colour = letter
    return (digits[:place] + (digit,) + digits[place + 1:], colour)


def done_at(program, told, flag, letter):
    """The pair (next flag, letter written) of an order at one cell."""
    digits, colour = letter
    word = told[0]
    if word == "jump":
        return (flag, letter)
    if word == "paint":
        return (flag, (digits, program.colours[told[1]]))
    if word == "ifzero":
        return (max(flag, digits[told[1]]), letter)
    if word == "ifsame":
        return (flag if digits[told[1]] == digits[told[2]] else 1, letter)
    flag, digit = digit_behind(told, flag, digits)
    return (flag, with_digit(letter, told[1], digit))


def digit_behind(told, flag, digits):
    """The pair (next flag, digit written) of an order that changes the digits of a register."""
    word = told[0]
    if word == "clear":
        return (flag, 0)
    if word == "copy":
        return (flag, digits[told[2]])
    own = digits[told[1]]
    if word == "dec":
        return (1 if own < flag else 0, (own - flag) % 2)
    total = flag + own + (digits[told[2]] if word == "add" else 0)
    return (total // 2, total % 2)
