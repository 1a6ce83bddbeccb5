"""What the document tells of the machines of programs, written once more by its tables.

Each state's steps and turns are told here from the text of a program, whether the state comes or not.
"""

from itertools import product

import plain_programs


class Told:
    """The tables for one program."""

    def __init__(self, text):
        lines = plain_programs.lines_of(text)
        self.registers = lines[0].split(" ")[1:]
        self.colours = lines[1].split(" ")[1:]
        self.orders, self.places = plain_programs.orders(text)
        self.letters = [(digits, colour) for digits in product((0, 1), repeat=len(self.registers))
                        for colour in self.colours]

    def at(self, word):
        return self.registers.index(word)

    def step(self, state, letter):
        digits, colour = list(letter[0]), letter[1]
        kind, order, flag = state
        if kind == "back":
            if flag is not None:
                digits[flag] = 0
            return state, (tuple(digits), colour)
        word, *rest = self.orders[order]
        if word in ("inc", "add"):
            own = self.at(rest[0])
            total = flag + digits[own] + (digits[self.at(rest[1])] if word == "add" else 0)
            digits[own], flag = int(bin(total)[-1]), int(total in (2, 3))
        elif word == "dec":
            less = digits[self.at(rest[0])] - flag
            digits[self.at(rest[0])], flag = less % 2, int(less < 0)
        elif word == "clear":
            digits[self.at(rest[0])] = 0
        elif word == "copy":
            digits[self.at(rest[0])] = digits[self.at(rest[1])]
        elif word == "paint":
            colour = rest[0]
        elif word == "ifzero":
            flag = int(flag == 1 or digits[self.at(rest[0])] == 1)
        elif word == "ifsame":
            flag = int(flag == 1 or digits[self.at(rest[0])] != digits[self.at(rest[1])])
        return ("do", order, flag), (tuple(digits), colour)

    def turn(self, state):
        kind, order, flag = state
        if kind == "back":
            if order == len(self.orders) or self.orders[order] == ["end"]:
                return None
            return ("do", order, int(self.orders[order][0] in ("inc", "dec"))), None
        word, *rest = self.orders[order]
        if word == "jump" or word in ("ifzero", "ifsame") and flag == 0:
            return ("back", self.places[rest[-1]], None), None
        if word == "dec" and flag == 1:
            return ("back", order + 1, self.at(rest[0])), None
        if word in ("inc", "add") and flag == 1:
            digits = tuple(int(name == rest[0]) for name in self.registers)
            return ("back", order + 1, None), (digits, self.colours[0])
        return ("back", order + 1, None), None

    def tables(self):
        """The steps and turns of all states that come when any words of all letters are fed."""
        states = {("back", 0, None)}
        grown = True
        while grown:
            size = len(states)
            for state in list(states):
                turn = self.turn(state)
                states.update([self.step(state, letter)[0] for letter in self.letters], [turn[0]] if turn else [])
            grown = size != len(states)
        side = {"back": "l", "do": "r"}
        steps = {(side[state[0]], state, letter): self.step(state, letter)
                 for state in states for letter in self.letters}
        return steps, {(side[state[0]], state): self.turn(state) for state in states}


def first_row(text, values):
    lines = plain_programs.lines_of(text)
    length = max(2, *[len(bin(value)) - 2 for value in values])
    columns = zip(*[reversed(bin(value)[2:].zfill(length)) for value in values])
    return tuple((tuple(int(digit) for digit in digits), lines[1].split(" ")[1]) for digits in columns)


def values_of(row):
    return tuple(int("".join(str(digits[at]) for digits, _ in reversed(row)), 2) for at in range(len(row[0][0])))


def painted(text, found):
    """The colours of the rows 2 * t + 1 of some moments: what comes later has the first colour until it is painted."""
    told = plain_programs.orders(text)[0]
    colours = plain_programs.lines_of(text)[1].split(" ")[1:]
    lengths = [len(first_row(text, values)) for _, values in found]
    length = 0
    row = []
    rows = []
    for (order, _), least in zip(found, lengths):
        length = max(length, least)
        row = row + [colours[0]] * (length - len(row))
        rows.append(tuple(row))
        if order < len(told) and told[order][0] == "paint":
            row = [told[order][1]] * length
    return rows
