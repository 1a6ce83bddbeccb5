"""What promises about the items of a desk say, and whether they are kept."""

from tilesregrow.compiling import values_of
from tilesregrow.errors import BadText
from tilesregrow.texts import is_name, number_of, numbers_of, words_of

# What follows the word of a promise: N a number, V numbers, T the name of another item.
KINDS = {
    "right": "",
    "whole": "",
    "lacks": "N",
    "tells": "NV",
    "heals": "N",
    "like": "T",
}


class Pledge:
    """What a promise says: its word, the names of the items that it is about, and what else follows."""

    def __init__(self, word, about, values):
        self.word = word
        self.about = about
        self.values_told = values


def pledge_of(promise):
    """What the text of a promise says."""
    if not isinstance(promise, str):
        raise BadText(0, 0)
    words = words_of(promise)
    if not is_name(words[0]):
        raise BadText(1, 1)
    if len(words) < 2 or words[1] not in KINDS:
        raise BadText(1, 2)
    kinds = KINDS[words[1]]
    values = []
    for column, kind in enumerate(kinds, start=3):
        value = value_of(kind, words[column - 1]) if len(words) >= column else None
        if value is None:
            raise BadText(1, column)
        values.append(value)
    if len(words) > len(kinds) + 2:
        raise BadText(1, len(kinds) + 3)
    if words[1] == "like":
        return Pledge("like", [words[0], *values], [])
    return Pledge(words[1], [words[0]], values)


def value_of(kind, word):
    """What a word of this kind tells, None if it is wrong."""
    if kind == "N":
        return number_of(word)
    if kind == "V":
        return numbers_of(word)
    return word if is_name(word) else None


def is_about(promise, name):
    """Whether a promise names this item."""
    return name in pledge_of(promise).about


def promise_renamed(promise, name, new):
    """The promise with the new name of an item in the place of the old one."""
    words = words_of(promise)
    places = (0, 2) if words[1] == "like" else (0,)
    return " ".join([new if at in places and word == name else word for at, word in enumerate(words)])


def verdict_on(pledge, items):
    """The pair of whether a pledge about these items is kept and the witness."""
    word = pledge.word
    world = items[0].played_world()
    if word == "right":
        return kept_or(world.wrong() == (), world.wrong())
    if word == "whole":
        return kept_or(world.is_whole(), None)
    if word == "lacks":
        many = len(world.lacking())
        return kept_or(many <= pledge.values_told[0], many)
    if word == "tells":
        numbers = numbers_at(world, pledge.values_told[0])
        return kept_or(numbers == pledge.values_told[1], numbers)
    if word == "heals":
        return kept_or(items[0].rounds_behind_wash() <= pledge.values_told[0], None)
    return kept_or(are_like(world.bed, items[1].played_world().bed), None)


def kept_or(kept, witness):
    """The verdict, which has a witness only if the promise is not kept."""
    return (True, None) if kept else (False, witness)


def numbers_at(world, moment):
    """The numbers that the row of a moment tells, None if it is not there or not whole."""
    rows = world.rows()
    at = 2 * moment + 1
    if at >= len(rows) or None in rows[at]:
        return None
    return values_of(rows[at])


def are_like(bed, other):
    """Whether two beds have tiles of the same names, and the same ones at the same places."""
    return bed.tile_set.names() == other.tile_set.names() and bed.pairs() == other.pairs()
