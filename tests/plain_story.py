"""What the document tells of stories and files, written once more as plainly as it is told there."""

import random
import re

import plain_programs
from plain_programs import lines_of, wrong_word
from plain_worlds import PlainWorld
from tilesregrow.compiling import sweeps_of
from tilesregrow.programs import Program

N = re.compile(r"[0-9]{1,6}\Z")
Z = re.compile(r"-?[0-9]{1,6}\Z")
NUMBERS = re.compile(r"[0-9]{1,6}(,[0-9]{1,6})*\Z")

FORMS = {"come": (Z, Z, N), "slip": (Z, Z, N), "cut": (Z, Z, N, N), "cell": (N, N), "wash": (), "grow": (N,),
         "rounds": (N,)}


def wrong_form(words, forms):
    """The number of the first word behind the first one that is wrong, missing or too much, or None."""
    for column, form in enumerate(forms, start=2):
        if len(words) < column or not form.match(words[column - 1]):
            return column
    return len(forms) + 2 if len(words) > len(forms) + 1 else None


def wrong_at(text):
    """The pair (line, column) at which the text of a story is wrong, or None."""
    lines = lines_of(text)
    if not lines or lines[0].split(" ")[0] != "values":
        return 1, 1
    column = wrong_form(lines[0].split(" "), (NUMBERS,))
    if column is not None:
        return 1, column
    beds = [number for number, line in enumerate(lines, start=1) if line.split(" ")[0] == "bed"]
    program = lines[1:beds[0] - 1] if beds else lines[1:]
    wrong = plain_programs.wrong_at("".join(line + "\n" for line in program))
    if wrong is not None:
        return wrong[0] + 1, wrong[1]
    if not beds:
        return len(lines) + 1, 1
    if lines[beds[0] - 1] != "bed":
        return beds[0], 2
    for number, line in enumerate(lines[beds[0]:], start=beds[0] + 1):
        words = line.split(" ")
        column = wrong_form(words, FORMS[words[0]]) if words[0] in FORMS else 1
        if column is not None:
            return number, column
    return None


def parts(text):
    """The text of the program, the numbers, and the deeds as lists of words, of a right story."""
    lines = lines_of(text)
    bed = lines.index("bed")
    return ("".join(line + "\n" for line in lines[1:bed]), tuple(int(word) for word in lines[0][7:].split(",")),
            [line.split(" ") for line in lines[bed + 1:]])


def deeds(text):
    found = []
    for word, *rest in parts(text)[2]:
        numbers = [int(one) for one in rest]
        if word in ("come", "slip", "cut"):
            numbers = [tuple(numbers[:2]), *numbers[2:]]
        found.append((word, *numbers))
    return tuple(found)


class PlainStory:
    """A right story whose program ends soon, on its way."""

    def __init__(self, text):
        program, numbers, self.deeds = parts(text)
        sweeps = sweeps_of(Program(program), numbers)
        self.world = PlainWorld((sweeps.first, sweeps.begin, sweeps.steps, sweeps.turns), 400)
        self.names = sorted(self.world.bed.tile_set.names(), key=repr)

    def do(self, deed):
        """Do a deed; returns what it tells, or a list of the name of its error and the error's fields."""
        word, *rest = deed
        numbers = [int(one) for one in rest]
        if word in ("come", "slip"):
            if numbers[2] >= len(self.names):
                return ["BadNumber", "tile", numbers[2]]
            try:
                self.world.do(word, tuple(numbers[:2]), self.names[numbers[2]])
            except Exception as error:
                return [error.__class__.__name__, *vars(error).values()]
            return "ok"
        if word in ("grow", "rounds"):
            return ("came " if word == "grow" else "rounds ") + str(self.world.do(word, numbers[0]))
        if word == "wash":
            return f"went {len(self.world.do('wash'))}"
        if word == "cell":
            numbers = [2 * numbers[0], 2 * numbers[1], 2, 2]
        x, y, wide, high = numbers
        places = [(x + i, y + j) for i in range(wide) for j in range(high) if (x + i, y + j) != (0, 0)]
        return f"went {self.world.do('cut', places)}"

    def play(self):
        """What all deeds tell, up to the first that raises an error, and this error or None."""
        found = []
        for deed in self.deeds:
            said = self.do(deed)
            if isinstance(said, list):
                return (*found, "error"), said
            found.append(said)
        return tuple(found), None


PROGRAMS = (
    ("registers a\ncolours c\n", 1),
    ("registers a b\ncolours red blue\nat x\nifzero b y\ndec b\nadd a a\ninc a\njump x\nat y\npaint blue\n", 2),
    ("registers a b c\ncolours w r\nadd a b\ncopy c a\ninc c\nifsame a c out\npaint r\nat out\nend\n", 3),
    ("registers n\ncolours c d\nat more\nifzero n out\ndec n\npaint d\njump more\nat out\n", 1))


def random_deed(rng):
    """The line of a deed; most of them can be done."""
    word = rng.choice(("come", "slip", "cut", "cell", "wash", "grow", "rounds", "grow", "rounds"))
    place = f"{rng.randrange(-2, 9)} {rng.randrange(-2, 12)}"
    return {"come": f"come {place} {rng.randrange(300)}", "slip": f"slip {place} {rng.randrange(250)}",
            "cut": f"cut {place} {rng.randrange(6)} {rng.randrange(6)}",
            "cell": f"cell {rng.randrange(4)} {rng.randrange(8)}", "wash": "wash",
            "grow": f"grow {rng.randrange(60)}", "rounds": f"rounds {rng.randrange(30)}"}[word]


def random_story(rng, many=None, deed=random_deed):
    program, registers = rng.choice(PROGRAMS)
    lines = [f"values {','.join(str(rng.randrange(5)) for _ in range(registers))}", *lines_of(program), "bed"]
    lines += [deed(rng) for _ in range(rng.randrange(8) if many is None else many)]
    return "\n".join(lines) + rng.choice(("", "\n"))


def random_stories(many, seed, **told):
    rng = random.Random(seed)
    return [random_story(rng, **told) for _ in range(many)]


def spoiled(rng, text):
    """A text of which one word or line is otherwise."""
    lines = text.split("\n")
    at = rng.randrange(len(lines))
    words = lines[at].split(" ")
    column = rng.randrange(len(words))
    words_of_all = ("", "-", "-1", "+1", "1234567", "-1234567", "12a", "a", "bed", "values", "end", "at", "007", "-0",
                    "1,2", "1,", ",", "x", "world", "--1", "1-", "0x1", "1_0", "\t", "1\t", "A")
    kind = rng.randrange(5)
    if kind == 0:
        words[column] = rng.choice(words_of_all)
    elif kind == 1:
        words.insert(column + rng.randrange(2), rng.choice(words_of_all))
    elif kind == 2:
        del words[column]
    elif kind == 3:
        return "\n".join(lines[:at] + lines[at + 1:])
    else:
        lines.insert(at, rng.choice((*words_of_all, "wash", "grow 5", "bed x", rng.choice(lines))))
        return "\n".join(lines)
    lines[at] = " ".join(words)
    return "\n".join(lines)
