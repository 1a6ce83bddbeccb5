"""Each cell of the rows of a machine as a block of four tiles, which have a label that tells what the cell does."""

from tilesregrow.beds import NONE, Bed, Tile, TileSet
from tilesregrow.directions import DIRECTIONS, OTHER_DIRECTION, direction_of, in_order
from tilesregrow.kinds import by_repr
from tilesregrow.sweeps import run

# The places (x, y) of a block.
CORNERS = ((0, 0), (1, 0), (0, 1), (1, 1))


def outcome(sweeps, label):
    """The triple (direction, state behind the step, letter of the cell) of a label."""
    word = label[0]
    if word == "first":
        return ("r", None, sweeps.first[label[1]])
    if word == "extra":
        return ("r", None, turn_at(sweeps, last_beside(label))[1])
    direction, state, letter = key_of_start(sweeps, label[1]) if word == "start" else label[1:]
    follower, written = sweeps.steps[(direction, state, letter)]
    return (direction, follower, written)


def turn_at(sweeps, label):
    """What the turn tells behind the step of a label "last"."""
    direction, state, _ = outcome(sweeps, label)
    return sweeps.turns[(direction, state)]


def last_beside(label):
    """The label "last" of the cell beside a cell with this label "extra"."""
    return ("last", "r", label[1], label[2])


def key_of_start(sweeps, below):
    """The key of the step with which a row begins above the last made cell of a row, which has this label."""
    direction, _, letter = outcome(sweeps, below)
    if below[0] == "first":
        state = sweeps.begin
    elif below[0] == "extra":
        state = turn_at(sweeps, last_beside(below))[0]
    else:
        state = turn_at(sweeps, below)[0]
    return (OTHER_DIRECTION[direction], state, letter)


def keys_of_steps(sweeps):
    """The list of the keys of the steps of all states that can come and all letters."""
    return [(direction, state, letter) for direction in DIRECTIONS for state in sweeps.states[direction]
            for letter in sweeps.letters]


def labels_of(sweeps):
    """The tuple of the labels of a machine, by their repr."""
    firsts = [("first", column) for column in range(len(sweeps.first))]
    keys = keys_of_steps(sweeps)
    lasts = [("last", *key) for key in keys]
    extras = []
    belows = [firsts[-1]]
    for label in lasts:
        turn = turn_at(sweeps, label)
        if turn is not None and turn[1] is None:
            belows.append(label)
        elif turn is not None:
            extras.append(("extra", label[2], label[3]))
    starts = [("start", below) for below in belows + extras]
    return by_repr(firsts + [("step", *key) for key in keys] + lasts + extras + starts)


def outer_glues(sweeps, label):
    """The tuple of the glues of a block behind, below, ahead and above."""
    word = label[0]
    if word == "first":
        return glues_of_first(sweeps, label)
    if word == "extra":
        return ((("extra", last_beside(label)), 2), NONE, NONE, (("turn", label), 2))
    if word == "start":
        direction, state, written = outcome(sweeps, label)
        below = (("turn", label[1]), 2)
        return (NONE, below, (("state", direction, state), 1), (("letter", direction, written, 1), 1))
    return glues_of_walk(sweeps, label)


def glues_of_first(sweeps, label):
    column = label[1]
    behind = NONE if column == 0 else (("chain", column), 2)
    if column == len(sweeps.first) - 1:
        return (behind, NONE, NONE, (("turn", label), 2))
    above = (("letter", "r", sweeps.first[column], 1 if column == 0 else 0), 1)
    return (behind, NONE, (("chain", column + 1), 2), above)


def glues_of_walk(sweeps, label):
    """The outer glues of a label "step" or "last"."""
    word, direction, state, letter = label
    _, follower, written = outcome(sweeps, label)
    behind = (("state", direction, state), 1)
    below = (("letter", OTHER_DIRECTION[direction], letter, 1 if word == "last" else 0), 1)
    above = (("letter", direction, written, 0), 1)
    if word == "step":
        return (behind, below, (("state", direction, follower), 1), above)
    turn = turn_at(sweeps, label)
    if turn is None:
        return (behind, below, NONE, NONE)
    if turn[1] is None:
        return (behind, below, NONE, (("turn", label), 2))
    return (behind, below, (("extra", label), 2), above)


def block_of(sweeps, label):
    """The list of the four tiles of a label, in the order of the corners."""
    behind, below, ahead, above = outer_glues(sweeps, label)
    ring = [(("inside", label, index), 2) for index in range(4)]
    if outcome(sweeps, label)[0] == "r":
        west, east, souths, norths = behind, ahead, (below, NONE), (NONE, above)
    else:
        west, east, souths, norths = ahead, behind, (NONE, below), (above, NONE)
    return [
        Tile((label, 0, 0), west, souths[0], ring[0], ring[1]),
        Tile((label, 1, 0), ring[0], souths[1], east, ring[2]),
        Tile((label, 0, 1), NONE, ring[1], ring[3], norths[0]),
        Tile((label, 1, 1), ring[3], ring[2], NONE, norths[1]),
    ]


def tiles_of(sweeps):
    """The set of the tiles of all labels of a machine."""
    return TileSet([tile for label in labels_of(sweeps) for tile in block_of(sweeps, label)])


def bed_of(sweeps):
    """The bed of a machine on which its seed alone lies."""
    return Bed(tiles_of(sweeps), (0, 0), (("first", 0), 0, 0))


def pairs_of_block(label, column, row):
    """The list of the pairs (place, name) of the tiles of the block of a cell with this label."""
    return [((2 * column + x, 2 * row + y), (label, x, y)) for x, y in CORNERS]


def label_at(bed, column, row):
    """The label whose four tiles lie in the block of this cell, or None."""
    name = bed.at((2 * column, 2 * row))
    if name is None:
        return None
    whole = all([bed.at(place) == own for place, own in pairs_of_block(name[0], column, row)])
    return name[0] if whole else None


def shown(sweeps, bed):
    """The triples (column, row, letter) of all whole blocks on a bed, by row, in a row by column."""
    cells = sorted([(up // 2, across // 2) for across, up in bed.places() if across % 2 == 0 and up % 2 == 0])
    found = []
    for row, column in cells:
        label = label_at(bed, column, row)
        if label is not None:
            found.append((column, row, outcome(sweeps, label)[2]))
    return tuple(found)


def label_beside(sweeps, label, below):
    """The label of the cell that is made behind a cell with a label "start" or "step", over a cell with this one."""
    direction, state, _ = outcome(sweeps, label)
    _, _, letter = outcome(sweeps, below)
    # Above the cell that was made first in its row the walk comes to its last letter.
    word = "last" if below[0] == "start" or below == ("first", 0) else "step"
    return (word, direction, state, letter)


def labels_above(sweeps, labels, row):
    """The tuple of the labels of the row with this number, from 1 on, above a row with these labels."""
    direction = direction_of(row)
    belows = in_order(direction, labels)
    made = [("start", belows[0])]
    for below in belows[1:]:
        made.append(label_beside(sweeps, made[-1], below))
    turn = turn_at(sweeps, made[-1])
    if turn is not None and turn[1] is not None:
        made.append(("extra", made[-1][2], made[-1][3]))
    return in_order(direction, made)


def rows_of_labels(sweeps, many):
    """The tuple of the labels of so many rows, row 0 first."""
    rows = [tuple([("first", column) for column in range(len(sweeps.first))])]
    for row in range(1, many):
        rows.append(labels_above(sweeps, rows[-1], row))
    return tuple(rows)


class Picture:
    """The whole picture of a machine that ends."""

    def __init__(self, sweeps, most):
        many_rows = len(run(sweeps, most))
        self.sweeps = sweeps
        self.labels = rows_of_labels(sweeps, many_rows)
        self._names = {}
        for row, labels in enumerate(self.labels):
            for column, label in enumerate(labels):
                for place, name in pairs_of_block(label, column, row):
                    self._names[place] = name
        self._places = sorted(self._names)
        self.many = len(self._names)

    def due(self, place):
        """The name of the tile of the picture at this place, or None."""
        return self._names.get(place)

    def lacking(self, bed):
        """The places, ascending, at which the picture has a tile and the bed has another one or none."""
        return tuple([place for place in self._places if bed.at(place) != self._names[place]])

    def strange(self, bed):
        """The places, ascending, at which the bed has a tile and the picture has another one or none."""
        return tuple([place for place, name in bed.pairs() if self._names.get(place) != name])
