"""Holes of beds of machines: the rounds in which they heal, and washes that take away what is wrong."""

from tilesregrow.beds import FACING_SIDES, beside
from tilesregrow.blocks import label_at, label_beside, pairs_of_block, turn_at
from tilesregrow.directions import STRIDE, direction_of
from tilesregrow.errors import NotKept

# The corner of a block that has the sides behind and below, by direction.
ENTRIES = {"r": (0, 0), "l": (1, 0)}


def times(picture, bed):
    """For each lacking place of a right bed, by place, the pair of it and the round in which it gets its tile."""
    strange = picture.strange(bed)
    if strange:
        raise NotKept("right", strange[0])
    found = {place: 0 for place in bed.places()}
    fresh = bed.places()
    time = 0
    while fresh:
        time += 1
        fresh = places_behind(picture, bed.tile_set, found, fresh)
        for place in fresh:
            found[place] = time
    return tuple([(place, found[place]) for place in picture.lacking(bed)])


def places_behind(picture, tile_set, found, fresh):
    """The list of the places that get their tiles in the round behind the one that brought the fresh places.

    The keys of the dict found are the places that have their tiles until then.
    """
    coming = {}
    for place in fresh:
        tile = tile_set.tile_of(picture.due(place))
        for side, other in enumerate(beside(place)):
            name = picture.due(other)
            if name is None or other in found or other in coming:
                continue
            glue = tile.glue_at(side)
            strong = glue[1] == 2 and tile_set.tile_of(name).glue_at(FACING_SIDES[side]) == glue
            if strong or is_entered(name, other, found):
                coming[other] = True
    return list(coming)


def is_entered(name, place, found):
    """Whether the tile with this name has both sides behind and below, and tiles lie there."""
    label, x, y = name
    if label[0] not in ("step", "last") or (x, y) != ENTRIES[label[1]]:
        return False
    across, up = place
    return (across - STRIDE[label[1]], up) in found and (across, up - 1) in found


def rounds_left(picture, bed):
    """How many rounds a right bed needs until it is whole."""
    return max([time for _, time in times(picture, bed)], default=0)


def hole_of(cells):
    """The tuple of all places of the blocks of some cells, ascending."""
    return tuple(sorted({(2 * column + x, 2 * row + y) for column, row in cells for x in (0, 1) for y in (0, 1)}))


def is_inner(picture, column, row):
    """Whether a cell of the picture is an inner one."""
    if not 0 <= row < len(picture.labels) or not 0 <= column < len(picture.labels[row]):
        return False
    return picture.labels[row][column][0] == "step"


def cell_behind(cell):
    """The cell that is made ahead of this one in its row."""
    column, row = cell
    return (column - STRIDE[direction_of(row)], row)


def cell_below(cell):
    column, row = cell
    return (column, row - 1)


def weight_of(chain):
    """The weight of a tuple of cells, None if it is no chain."""
    weight = 3 if chain else 0
    for before, cell in zip(chain, chain[1:]):
        if before == cell_behind(cell):
            weight += 2
        elif before == cell_below(cell):
            weight += 3
        else:
            return None
    return weight


def making_rank(cell):
    """What orders cells as they are made."""
    column, row = cell
    return (row, column * STRIDE[direction_of(row)])


def heaviest(picture, cells):
    """The pair of the greatest weight of a chain of inner cells and a chain of them with this weight."""
    for cell in cells:
        if not is_inner(picture, *cell):
            raise NotKept("inner", cell)
    # The heaviest chain that ends with a cell: its weight, and the cell ahead of it or None.
    ends = {}
    for cell in sorted(cells, key=making_rank):
        ends[cell] = heavier_end(ends, heavier_end(ends, (3, None), cell_behind(cell), 2), cell_below(cell), 3)
    if not ends:
        return (0, ())
    last = max(ends, key=lambda cell: ends[cell][0])
    return (ends[last][0], chain_to(ends, last))


def heavier_end(ends, end, before, weight):
    """The pair end, or the one of a chain that comes over the cell before with so much weight, if it is heavier."""
    if before in ends and ends[before][0] + weight > end[0]:
        return (ends[before][0] + weight, before)
    return end


def chain_to(ends, last):
    """The tuple of the cells of the heaviest chain that ends with the last one."""
    chain = []
    cell = last
    while cell is not None:
        chain.append(cell)
        _, cell = ends[cell]
    return tuple(chain)[::-1]


def kept_and_next(sweeps, bed):
    """The dict from each kept cell, in the order of making, to its label, and the cell made next with its due label.

    Cell and label are None if no cell is made behind the kept ones.
    """
    kept = {}
    cell, label = (0, 0), ("first", 0)
    while cell is not None and label_at(bed, *cell) == label:
        kept[cell] = label
        cell, label = made_behind(sweeps, kept, cell)
    return (kept, cell, label)


def made_behind(sweeps, labels, cell):
    """The cell that is made behind this one and its due label, both None at the end of the whole.

    The dict has the labels of this cell and of all that are made ahead of it.
    """
    column, row = cell
    label = labels[cell]
    word = label[0]
    if word == "first" and label[1] < len(sweeps.first) - 1:
        return ((column + 1, row), ("first", column + 1))
    if word in ("start", "step"):
        ahead = column + STRIDE[direction_of(row)]
        return ((ahead, row), label_beside(sweeps, label, labels[(ahead, row - 1)]))
    if word == "last":
        turn = turn_at(sweeps, label)
        if turn is None:
            return (None, None)
        if turn[1] is not None:
            return ((column + 1, row), ("extra", label[2], label[3]))
    return ((column, row + 1), ("start", label))


def kept_cells(sweeps, bed):
    """The cells, in the order of making, up to the first one whose block is not whole with its due label."""
    kept, _, _ = kept_and_next(sweeps, bed)
    return tuple(kept)


def wash(sweeps, bed):
    """Only what is known to be right stays; returns the tuple of the places whose tiles go, ascending."""
    kept, cell, label = kept_and_next(sweeps, bed)
    staying = {place: True for place in hole_of(list(kept))}
    if cell is not None:
        for place, name in pairs_of_block(label, *cell):
            if bed.at(place) == name:
                staying[place] = True
    gone = tuple([place for place in bed.places() if place not in staying])
    bed.cut(gone)
    return gone
