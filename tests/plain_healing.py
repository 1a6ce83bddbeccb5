"""What the document tells of rounds, holes and washes, written once more as plainly as it is told there.

A machine is a plain one (plain_sweeps), rows are rows of labels (plain_blocks), a plain bed is a dict from places to
names.
"""

import random

import plain_blocks
import plain_sweeps
from tilesregrow.compiling import sweeps_of
from tilesregrow.programs import Program


def around(place):
    across, up = place
    return [(across - 1, up), (across, up - 1), (across + 1, up), (across, up + 1)]


def direction(row):
    return "l" if row % 2 else "r"


def picture_glues(machine, rows):
    """A dict from each place of the picture to the list of its four glues."""
    found = {}
    for row, labels in enumerate(rows):
        for column, label in enumerate(labels):
            for (x, y), glues in plain_blocks.sides(machine, label).items():
                found[2 * column + x, 2 * row + y] = glues
    return found


def entries(rows):
    """A dict from each place with the sides behind and below to the two places that these sides face."""
    found = {}
    for row, labels in enumerate(rows):
        for column, label in enumerate(labels):
            if label[0] in ("step", "last"):
                x, y = 2 * column, 2 * row
                if label[1] == "r":
                    found[x, y] = [(x - 1, y), (x, y - 1)]
                else:
                    found[x + 1, y] = [(x + 2, y), (x + 1, y - 1)]
    return found


def times(machine, rows, lying):
    """The numbering by its rules alone: each time is made greater until all of them hold."""
    glues = picture_glues(machine, rows)
    facing = entries(rows)
    never = 10 ** 9
    found = {place: 0 if place in lying else never for place in glues}
    changed = True
    while changed:
        changed = False
        for place in glues:
            if place in lying:
                continue
            ways = [found[other] for side, other in enumerate(around(place)) if other in glues
                    and glues[place][side] == glues[other][(side + 2) % 4] and glues[place][side][1] == 2]
            if place in facing:
                ways.append(max(found[other] for other in facing[place]))
            if min(ways) + 1 < found[place]:
                found[place] = min(ways) + 1
                changed = True
    return tuple((place, found[place]) for place in sorted(glues) if place not in lying)


def rounds_one_by_one(bed):
    """A dict from each place to the round in which its tile comes on a twin of a bed."""
    bed = bed.twin()
    found = {}
    number = 0
    while bed.may_come():
        number += 1
        for place, name in bed.may_come():
            found[place] = number
            bed.come(place, name)
    return found


def making(rows):
    """The cells of rows in the order of making."""
    found = []
    for row, labels in enumerate(rows):
        cells = [(column, row) for column in range(len(labels))]
        found += cells if direction(row) == "r" else cells[::-1]
    return found


def block(column, row):
    return [(2 * column + x, 2 * row + y) for x in (0, 1) for y in (0, 1)]


def kept(rows, lying):
    """The kept cells: what is due is the label of the picture as long as all cells ahead are kept."""
    due = plain_blocks.tiles(rows)
    found = []
    for cell in making(rows):
        if any(lying.get(place) != due[place] for place in block(*cell)):
            break
        found.append(cell)
    return tuple(found)


def gone(rows, lying):
    """The places that go in a wash."""
    due = plain_blocks.tiles(rows)
    cells = making(rows)
    many = len(kept(rows, lying))
    stay = [place for cell in cells[:many] for place in block(*cell)]
    for cell in cells[many:many + 1]:
        stay += [place for place in block(*cell) if lying.get(place) == due[place]]
    return tuple(sorted(set(lying) - set(stay)))


def befores(cell):
    """The cells behind and below a cell, with what they add to a weight."""
    column, row = cell
    return {(column - 1 if direction(row) == "r" else column + 1, row): 2, (column, row - 1): 3}


def weight(chain):
    if not chain:
        return 0
    total = 3
    for at in range(1, len(chain)):
        if chain[at - 1] not in befores(chain[at]):
            return None
        total += befores(chain[at])[chain[at - 1]]
    return total


def greatest(cells):
    """The greatest weight of a chain of some cells: all chains are looked at."""
    cells = set(cells)

    def longest(cell):
        return max([3] + [longest(other) + more for other, more in befores(cell).items() if other in cells])

    return max([longest(cell) for cell in cells], default=0)


PROGRAM = "registers a b\ncolours red blue\nat x\nifzero b y\ndec b\nadd a a\ninc a\njump x\nat y\npaint blue\n"


def program_machine(values, text=PROGRAM):
    sweeps = sweeps_of(Program(text), values)
    return sweeps.first, sweeps.begin, sweeps.steps, sweeps.turns


def some_machines(many, seed):
    """Machines that end, of all kinds: random ones, with many equal cells, with extra letters."""
    found = [plain_sweeps.EATER, program_machine((1, 1)), program_machine((3, 0)),
             (("1", "1"), "back", {**plain_sweeps.COUNTER[2],
                                   **{("l", "end", digit): ("end", digit) for digit in "01"}},
              {**plain_sweeps.COUNTER[3], ("r", "add"): ("end", "1"), ("l", "end"): None})]
    return found + plain_sweeps.ending_machines(many, 9, seed=seed)


def holes(rng, places, seed_place):
    """Lists of places of all kinds: few places, rectangles, whole blocks, all but one tile of each block, all."""
    places = [place for place in places if place != seed_place]
    (left, low), (right, high) = sorted(rng.choices(places, k=2))
    low, high = min(low, high), max(low, high)
    by_block = {}
    for across, up in places:
        by_block.setdefault((across // 2, up // 2), []).append((across, up))
    cells = [cell for cell in by_block if rng.random() < 0.4]
    spared = {rng.choice(lot) for lot in by_block.values()}
    return [
        rng.sample(places, min(len(places), rng.randrange(6))),
        [(x, y) for x, y in places if left <= x <= right and low <= y <= high],
        [place for cell in cells for place in by_block[cell]],
        [place for place in places if place not in spared],
        [place for place in places if rng.random() < 0.5],
        places]
