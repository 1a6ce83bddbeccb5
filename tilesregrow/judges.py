"""Histories of worlds: whether their deeds can be done, and what lies behind them."""

from tilesregrow.errors import BadNumber, BadPlace, Loose, NoName, NotKept, Taken
from tilesregrow.healing import rounds_left
from tilesregrow.kinds import is_datum
from tilesregrow.worlds import World

# How many items a deed has, by its word.
ITEMS = {"come": 3, "slip": 3, "cut": 2, "wash": 1}


def is_history(value):
    """Whether a value is a tuple of deeds."""
    return isinstance(value, tuple) and all([is_deed(deed) for deed in value])


def is_deed(deed):
    """Whether a value has the form of a deed; places and names are looked at only when it is done."""
    if not isinstance(deed, tuple) or not deed or not isinstance(deed[0], str) or deed[0] not in ITEMS:
        return False
    return len(deed) == ITEMS[deed[0]] and (deed[0] != "cut" or isinstance(deed[1], tuple))


def name_in(deed):
    """The name of a deed; None, which names no tile, if it is no datum."""
    return deed[2] if is_datum(deed[2]) else None


def do_deed(world, deed):
    word = deed[0]
    if word == "come":
        world.come(deed[1], name_in(deed))
    elif word == "slip":
        world.slip(deed[1], name_in(deed))
    elif word == "cut":
        world.cut(deed[1])
    else:
        world.wash()


def error_of(world, deed):
    """None if the deed is done, otherwise the word of the error that it raises."""
    try:
        do_deed(world, deed)
    except BadPlace:
        return "place"
    except NoName:
        return "name"
    except Taken:
        return "taken"
    except Loose:
        return "loose"
    return None


class Trail:
    """A new world behind the deeds of a history, up to the first one that raises an error.

    failure is None, or the pair (index, word of the error) of this deed.
    """

    def __init__(self, sweeps, most, history):
        self.world = World(sweeps, most)
        if not is_history(history):
            raise BadNumber("history", history)
        self.failure = None
        for index, deed in enumerate(history):
            error = error_of(self.world, deed)
            if error is not None:
                self.failure = (index, error)
                break


def first_wrong(sweeps, most, history):
    """None if each deed can be done, otherwise the pair (index, word of the error) of the first that cannot."""
    return Trail(sweeps, most, history).failure


def world_behind(sweeps, most, history):
    """A world behind a history whose deeds can all be done."""
    trail = Trail(sweeps, most, history)
    if trail.failure is not None:
        raise NotKept("deed", trail.failure[0])
    return trail.world


def pairs_behind(sweeps, most, history):
    """The pairs of the bed behind a history."""
    return world_behind(sweeps, most, history).bed.pairs()


def comes_back(sweeps, most, history):
    """Whether the bed behind a history becomes whole without a wash: just if nothing wrong lies."""
    return world_behind(sweeps, most, history).wrong() == ()


def washed_back(sweeps, most, history):
    """The pair of how many tiles a wash behind a history takes and how many rounds it then is until all is whole."""
    world = world_behind(sweeps, most, history)
    gone = world.wash()
    return (len(gone), rounds_left(world.picture, world.bed))
