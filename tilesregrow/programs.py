"""Programs of registers, and the moments that they come to."""

from tilesregrow.errors import BadNumber, BadText
from tilesregrow.kinds import is_list, is_number
from tilesregrow.texts import is_name, lines_of, words_of

# What follows the word of an order: R a register, C a colour, L the NAME of a place in the program.
ORDERS = {
    "inc": "R",
    "dec": "R",
    "clear": "R",
    "add": "RR",
    "copy": "RR",
    "jump": "L",
    "ifzero": "RL",
    "ifsame": "RRL",
    "paint": "C",
    "end": "",
}

MOST_REGISTERS = 3

MOST_COLOURS = 4


class Program:
    """A program, read from its text."""

    def __init__(self, text):
        if not isinstance(text, str):
            raise BadText(0, 0)
        lines = [words_of(line) for line in lines_of(text)]
        registers = names_of_line(lines, 1, "registers", MOST_REGISTERS)
        colours = names_of_line(lines, 2, "colours", MOST_COLOURS)
        known = {"R": registers, "C": colours, "L": marks_of(lines)}
        self.text = text
        self.registers = tuple(registers)
        self.colours = tuple(colours)
        self.orders = orders_of(lines, known)


def names_of_line(lines, number, word, most):
    """A dict from each NAME that the line with this number tells behind its word to its place, from 0 on."""
    if len(lines) < number or lines[number - 1][0] != word:
        raise BadText(number, 1)
    names = {}
    for column, name in enumerate(lines[number - 1][1:], start=2):
        if len(names) == most or not is_name(name) or name in names:
            raise BadText(number, column)
        names[name] = len(names)
    if not names:
        raise BadText(number, 2)
    return names


def marks_of(lines):
    """A dict from each NAME of a line `at`, also a wrong one, to the number of the order that follows.

    Orders can name places that are told behind them, so that these are looked for ahead of all errors.
    """
    marks = {}
    orders = 0
    for words in lines[2:]:
        if words[0] != "at":
            orders += 1
        elif len(words) > 1 and is_name(words[1]):
            marks.setdefault(words[1], orders)
    return marks


def orders_of(lines, known):
    """The tuple of the orders of the lines behind the first two."""
    orders = []
    marks = {}
    for number, words in enumerate(lines[2:], start=3):
        if words[0] == "at":
            check_mark(number, words, marks)
            marks[words[1]] = True
        else:
            orders.append(order_of(number, words, known))
    return tuple(orders)


def check_mark(number, words, marks):
    """A line `at` tells one NAME, which none ahead of it has."""
    if len(words) < 2 or not is_name(words[1]) or words[1] in marks:
        raise BadText(number, 2)
    if len(words) > 2:
        raise BadText(number, 3)


def order_of(number, words, known):
    """The order of the line with this number: its word and, as numbers, what follows."""
    if words[0] not in ORDERS:
        raise BadText(number, 1)
    kinds = ORDERS[words[0]]
    told = [words[0]]
    for column, kind in enumerate(kinds, start=2):
        if len(words) < column or words[column - 1] not in known[kind]:
            raise BadText(number, column)
        told.append(known[kind][words[column - 1]])
    if len(words) > len(told):
        raise BadText(number, len(told) + 1)
    return tuple(told)


def is_over(program, order):
    """Whether the program ends at the order with this number."""
    return order == len(program.orders) or program.orders[order][0] == "end"


def check_values(program, values):
    if not is_list(values) or len(values) != len(program.registers):
        raise BadNumber("values", values)
    if not all([is_number(value) and value < 2 ** 40 for value in values]):
        raise BadNumber("values", values)


def moments(program, values, most):
    """The moments of a program from these values on, up to the first that is over or has the index most."""
    check_values(program, values)
    if not is_number(most):
        raise BadNumber("most", most)
    order = 0
    numbers = tuple(values)
    found = [(order, numbers)]
    while len(found) <= most and not is_over(program, order):
        told = program.orders[order]
        # Tests look at the numbers ahead of the order; what changes numbers tests none.
        order = order_behind(order, told, numbers)
        numbers = numbers_behind(told, numbers)
        found.append((order, numbers))
    return tuple(found)


def order_behind(number, told, numbers):
    """The number of the order that follows an order with this number."""
    word = told[0]
    if word == "jump":
        return told[1]
    if word == "ifzero" and numbers[told[1]] == 0:
        return told[2]
    if word == "ifsame" and numbers[told[1]] == numbers[told[2]]:
        return told[3]
    return number + 1


def numbers_behind(told, numbers):
    """The tuple of the numbers of the registers behind an order."""
    word = told[0]
    behind = list(numbers)
    if word == "inc":
        behind[told[1]] += 1
    elif word == "dec":
        behind[told[1]] = max(0, behind[told[1]] - 1)
    elif word == "clear":
        behind[told[1]] = 0
    elif word == "add":
        behind[told[1]] += behind[told[2]]
    elif word == "copy":
        behind[told[1]] = behind[told[2]]
    return tuple(behind)
