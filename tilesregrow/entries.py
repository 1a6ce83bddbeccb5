"""The items of a desk, and the files that tell them."""

from tilesregrow.errors import BadText
from tilesregrow.healing import rounds_left, wash
from tilesregrow.story import Story, played
from tilesregrow.texts import is_name, lines_of, text_of, words_of


class Item:
    """A story with a name, which can be played."""

    def __init__(self, name, story, world):
        self.name = name
        self.story = story
        self._world = world
        self._rounds = None

    def played_world(self):
        """Its world behind all deeds, which nobody changes."""
        if self._world is None:
            self._world = played(self.story)
        return self._world

    def forget_world(self):
        """Let the world go until it is asked for again."""
        self._world = None

    def rounds_behind_wash(self):
        """In how many rounds its bed is whole behind a wash."""
        if self._rounds is None:
            world = self.played_world()
            bed = world.bed.twin()
            wash(world.sweeps, bed)
            self._rounds = rounds_left(world.picture, bed)
        return self._rounds

    def called(self, name):
        """The item with another name."""
        return Item(name, self.story, self._world)

    def file_text(self):
        """The lines of a file that tell the item."""
        return f"world {self.name}\n{self.story.text}"


class Part:
    """The lines of one item in a file, behind the line `world` with this number."""

    def __init__(self, name, line):
        self.name = name
        self.line = line
        self.lines_told = []


def parts_of(text):
    """A dict from the names of the items of a file, in their order, to their parts."""
    if not isinstance(text, str):
        raise BadText(0, 0)
    parts = {}
    part = None
    for number, line in enumerate(lines_of(text), start=1):
        words = words_of(line)
        if words[0] == "world":
            check_world_line(number, words, parts)
            part = Part(words[1], number)
            parts[part.name] = part
        elif part is None:
            raise BadText(number, 1)
        else:
            part.lines_told.append(line)
    return parts


def check_world_line(number, words, parts):
    """A line `world` tells one NAME, which no earlier item of the file has."""
    if len(words) < 2 or not is_name(words[1]) or words[1] in parts:
        raise BadText(number, 2)
    if len(words) > 2:
        raise BadText(number, 3)


def item_of(name, lines, above):
    """The item with these lines, above which so many others stand in the text that is passed."""
    try:
        story = Story(text_of(lines))
    except BadText as error:
        raise BadText(error.line + above, error.column) from None
    return Item(name, story, played(story))


def item_of_part(part):
    return item_of(part.name, part.lines_told, part.line)


def lines_edited(lines, number, text):
    """The lines with those of a text in the place of the line with this number."""
    fresh = lines_of(text)
    for other, line in enumerate(fresh, start=number):
        if words_of(line)[0] == "world":
            raise BadText(other, 1)
    return lines[:number - 1] + fresh + lines[number:]
