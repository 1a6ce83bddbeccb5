"""Stories: texts of a program, its first numbers, and deeds of its world."""

from tilesregrow.compiling import sweeps_of
from tilesregrow.errors import BadNumber, BadText, TileError
from tilesregrow.healing import hole_of
from tilesregrow.programs import Program, check_values
from tilesregrow.texts import integer_of, lines_of, number_of, numbers_of, text_of, words_of
from tilesregrow.worlds import World

MOST_WORLD_ROWS = 400

# What follows the word of a deed: Z an integer, N a number. Two Z are a place.
DEEDS = {
    "come": "ZZN",
    "slip": "ZZN",
    "cut": "ZZNN",
    "cell": "NN",
    "wash": "",
    "grow": "N",
    "rounds": "N",
}


class Story:
    """A story, read from its text."""

    def __init__(self, text):
        if not isinstance(text, str):
            raise BadText(0, 0)
        lines = lines_of(text)
        self.text = text
        self.numbers = numbers_of_line(lines)
        end = bed_line(lines)
        self.program = program_of(lines[1:end])
        check_bed_line(lines, end)
        self.deeds = tuple([deed_of(number, words_of(line))
                            for number, line in enumerate(lines[end + 1:], start=end + 2)])
        check_values(self.program, self.numbers)


def numbers_of_line(lines):
    """The numbers of the first line, which tells the values."""
    words = words_of(lines[0]) if lines else [""]
    if words[0] != "values":
        raise BadText(1, 1)
    numbers = None if len(words) == 1 else numbers_of(words[1])
    if numbers is None:
        raise BadText(1, 2)
    if len(words) > 2:
        raise BadText(1, 3)
    return numbers


def bed_line(lines):
    """The index of the first line `bed`, or of the line behind the last one."""
    for index, line in enumerate(lines):
        if words_of(line)[0] == "bed":
            return index
    return len(lines)


def program_of(lines):
    """The program of these lines, which stand behind the first line of a story."""
    try:
        return Program(text_of(lines))
    except BadText as error:
        raise BadText(error.line + 1, error.column) from None


def check_bed_line(lines, index):
    """The line with this index is just the word `bed`."""
    if index == len(lines):
        raise BadText(index + 1, 1)
    if len(words_of(lines[index])) > 1:
        raise BadText(index + 1, 2)


def deed_of(number, words):
    """The deed of the line with this number."""
    if words[0] not in DEEDS:
        raise BadText(number, 1)
    kinds = DEEDS[words[0]]
    numbers = []
    for column, kind in enumerate(kinds, start=2):
        if len(words) < column:
            raise BadText(number, column)
        value = integer_of(words[column - 1]) if kind == "Z" else number_of(words[column - 1])
        if value is None:
            raise BadText(number, column)
        numbers.append(value)
    if len(words) > len(kinds) + 1:
        raise BadText(number, len(kinds) + 2)
    if not kinds.startswith("ZZ"):
        return (words[0], *numbers)
    across, up, *others = numbers
    return (words[0], (across, up), *others)


def world_of(story):
    """The world of a story ahead of its deeds."""
    return World(sweeps_of(story.program, story.numbers), MOST_WORLD_ROWS)


def played(story):
    """A world behind all deeds of a story."""
    world = world_of(story)
    for deed in story.deeds:
        do_deed(world, deed)
    return world


def told(story):
    """The tuple of what each deed of a story tells, up to the first that raises an error."""
    world = world_of(story)
    found = []
    for deed in story.deeds:
        try:
            found.append(do_deed(world, deed))
        except TileError:
            found.append("error")
            break
    return tuple(found)


def do_deed(world, deed):
    """Do a deed; returns what it tells."""
    word = deed[0]
    if word == "come":
        world.come(deed[1], name_at(world, deed[2]))
        return "ok"
    if word == "slip":
        world.slip(deed[1], name_at(world, deed[2]))
        return "ok"
    if word == "grow":
        return f"came {world.grow(deed[1])}"
    if word == "rounds":
        return f"rounds {world.rounds(deed[1])}"
    if word == "wash":
        return f"went {len(world.wash())}"
    places = places_cut(world, deed) if word == "cut" else hole_of([deed[1:]])
    gone = world.cut([place for place in places if place != world.bed.seed_place])
    return f"went {gone}"


def name_at(world, index):
    """The name with this index among those of the tiles of a world."""
    names = world.bed.tile_set.names()
    if index >= len(names):
        raise BadNumber("tile", index)
    return names[index]


def places_cut(world, deed):
    """The places of a deed "cut" at which tiles lie: the rectangle itself may have far more."""
    _, (left, low), across, up = deed
    return [(x, y) for x, y in world.bed.places() if left <= x < left + across and low <= y < low + up]


def drawn(world):
    """The tuple of a string for each row, from the last one down, with a sign for each cell."""
    return tuple(["".join([sign_of(letter) for letter in row]) for row in world.rows()[::-1]])


def sign_of(letter):
    """The sign of a cell: a point if it is not whole, otherwise the sum of its digits."""
    if letter is None:
        return "."
    digits, _ = letter
    return str(sum([digit << at for at, digit in enumerate(digits)]))
