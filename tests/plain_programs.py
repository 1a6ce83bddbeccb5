"""What the document tells of programs, written once more as plainly as it is told there, and programs to ask about.

A plain program is its text; registers are a dict from NAMEs to numbers.
"""

import random
import re

NAME = re.compile(r"[a-z][a-z0-9]{0,11}\Z")


def lines_of(text):
    return text[:-1].split("\n") if text.endswith("\n") else text.split("\n") if text else []


def right_lines(lines):
    """All right orders of a text, as tuples of words, whose first two lines are right."""
    registers, colours = lines[0].split(" ")[1:], lines[1].split(" ")[1:]
    marks = [line.split(" ")[1] for line in lines if line.startswith("at ") and NAME.match(line.split(" ")[1])]
    # Also where no place has a name the words of jumps are right; None is like no word.
    marks.append(None)
    return [("end",), *[("jump", mark) for mark in marks], *[("paint", colour) for colour in colours],
            *[(word, one) for word in ("inc", "dec", "clear") for one in registers],
            *[(word, one, two) for word in ("add", "copy") for one in registers for two in registers],
            *[("ifzero", one, mark) for one in registers for mark in marks],
            *[("ifsame", one, two, mark) for one in registers for two in registers for mark in marks]]


def wrong_word(words, right):
    """The number of the first word that is wrong, missing or too much; None if the words are a right line."""
    if tuple(words) in right:
        return None
    for column in range(1, len(words) + 1):
        if not any(line[:column] == tuple(words[:column]) for line in right):
            return column
    return len(words) + 1


def wrong_names(line, word, most):
    """The same for the first two lines."""
    words = line.split(" ")
    if words[0] != word:
        return 1
    for column in range(2, len(words) + 1):
        if column > most + 1 or not NAME.match(words[column - 1]) or words[column - 1] in words[1:column - 1]:
            return column
    return 2 if len(words) == 1 else None


def wrong_at(text):
    """The pair (line, column) at which a text is wrong, or None."""
    lines = lines_of(text)
    for number, (word, most) in enumerate((("registers", 3), ("colours", 4)), start=1):
        column = wrong_names(lines[number - 1], word, most) if len(lines) >= number else 1
        if column is not None:
            return number, column
    told = []
    for number, line in enumerate(lines[2:], start=3):
        words = line.split(" ")
        if words[0] == "at":
            right = [("at", word) for word in words[1:2] if NAME.match(word) and word not in told]
            column = wrong_word(words, right) if right else 2
            told += words[1:2]
        else:
            column = wrong_word(words, right_lines(lines))
        if column is not None:
            return number, column
    return None


def orders(text):
    """The list of the lines with orders, each a list of words, and the dict of the numbers of its places."""
    found, places = [], {}
    for line in lines_of(text)[2:]:
        words = line.split(" ")
        if words[0] == "at":
            places[words[1]] = len(found)
        else:
            found.append(words)
    return found, places


def moments(text, values, most):
    names = lines_of(text)[0].split(" ")[1:]
    told, places = orders(text)
    held = dict(zip(names, values))
    at = 0
    found = [(0, tuple(values))]
    while len(found) <= most and at < len(told) and told[at] != ["end"]:
        word, *rest = told[at]
        at += 1
        if word == "inc":
            held[rest[0]] += 1
        elif word == "dec" and held[rest[0]] > 0:
            held[rest[0]] -= 1
        elif word == "clear":
            held[rest[0]] = 0
        elif word == "add":
            held[rest[0]] = held[rest[0]] + held[rest[1]]
        elif word == "copy":
            held[rest[0]] = held[rest[1]]
        elif word == "jump":
            at = places[rest[0]]
        elif word == "ifzero" and held[rest[0]] == 0:
            at = places[rest[1]]
        elif word == "ifsame" and held[rest[0]] == held[rest[1]]:
            at = places[rest[2]]
        found.append((at, tuple(held[name] for name in names)))
    return tuple(found)


def ends(text, found):
    """Whether the last of some moments is over."""
    told = orders(text)[0]
    at = found[-1][0]
    return at == len(told) or told[at] == ["end"]


NAMES = ("a", "b", "c", "inc", "end", "at", "x1", "registers", "z23456789012", "jump", "colours", "q")


def random_text(rng, many=None):
    """A program with places that are told ahead of their use, behind it and at the end."""
    registers = rng.sample(NAMES, rng.randrange(1, 4))
    colours = rng.sample(NAMES, rng.randrange(1, 5))
    marks = rng.sample(NAMES, rng.randrange(1, 4))
    lines = []
    for _ in range(many if many is not None else rng.randrange(0, 9)):
        one, two = rng.choice(registers), rng.choice(registers)
        lines.append(rng.choice((
            f"inc {one}", f"inc {one}", f"dec {one}", f"clear {one}", f"add {one} {two}", f"copy {one} {two}",
            f"jump {rng.choice(marks)}", f"ifzero {one} {rng.choice(marks)}",
            f"ifsame {one} {two} {rng.choice(marks)}", f"paint {rng.choice(colours)}", "end")))
    for mark in marks:
        lines.insert(rng.randrange(len(lines) + 1), f"at {mark}")
    text = "\n".join([f"registers {' '.join(registers)}", f"colours {' '.join(colours)}", *lines])
    return text + rng.choice(("", "\n"))


def random_texts(many, seed=1):
    rng = random.Random(seed)
    return [random_text(rng) for _ in range(many)]


def random_values(rng, text, bits=6):
    return tuple(rng.randrange(2 ** rng.randrange(bits)) for _ in lines_of(text)[0].split(" ")[1:])


# a times b, by adding; the colour tells that all is done.
PRODUCT = """registers a b c
colours white red
at more
ifzero b out
dec b
add c a
jump more
at out
paint red
end
"""

# Each order and each kind of place.
ALL_ORDERS = """registers r s t
colours white red end at
at start
inc r
dec s
clear t
add r s
copy s t
ifzero r out
ifsame r s jump
paint at
jump out
at jump
end
paint white
jump start
at out
"""
