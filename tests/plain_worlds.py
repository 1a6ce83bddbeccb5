"""What the document tells of worlds, written once more as plainly as it is told there, over a Bed of the package."""

import plain_blocks
import plain_healing
import plain_sweeps
import plain_valves
from tilesregrow.beds import Bed
from tilesregrow.blocks import bed_of
from tilesregrow.valves import Valves


def grow(bed, many):
    """How many tiles came, each time the first pair."""
    for came in range(many):
        if not bed.may_come():
            return came
        bed.come(*bed.may_come()[0])
    return many


def rounds(bed, many):
    for done in range(many):
        first = {}
        for place, name in bed.may_come():
            first.setdefault(place, name)
        if not first:
            return done
        for place, name in first.items():
            bed.come(place, name)
    return many


class PlainWorld:
    """A machine, of which rows without an end are told up to most."""

    def __init__(self, machine, most=99):
        self.labels = plain_blocks.picture(machine, most)
        self.letters = plain_sweeps.run(machine, most)
        self.due = plain_blocks.tiles(self.labels)
        self.bed = bed_of(plain_sweeps.made(machine))

    def lying(self):
        return dict(self.bed.pairs())

    def do(self, word, *passed):
        """Do a deed; returns what it returns."""
        if word == "grow":
            return grow(self.bed, *passed)
        if word == "rounds":
            return rounds(self.bed, *passed)
        if word == "wash":
            gone = plain_healing.gone(self.labels, self.lying())
            self.bed.cut(gone)
            return gone
        return getattr(self.bed, word)(*passed)

    def wrong(self):
        lying = self.lying()
        return tuple(sorted(place for place in lying if lying[place] != self.due.get(place)))

    def lacking(self):
        lying = self.lying()
        return tuple(sorted(place for place in self.due if lying.get(place) != self.due[place]))

    def rows(self):
        lying = self.lying()
        return tuple(tuple(
            letter if all(lying.get(place) == self.due[place] for place in plain_healing.block(column, row)) else None
            for column, letter in enumerate(letters)) for row, letters in enumerate(self.letters))


class PlainGridWorld:
    def __init__(self, grid, k):
        self.grid, self.k = grid, k
        valves = Valves(plain_valves.made(grid), k)
        self.bed = Bed(valves.tile_set, valves.seed_place, valves.seed_name)
        self.right = plain_valves.right(*grid, k)
        for place, name in self.right.items():
            if -1 in place and place != (-1, -1):
                self.bed.slip(place, name)
        self.cells = [(column, row) for row in range(len(grid[1])) for column in range(len(grid[0]))]
        self.fields = {place: cell for cell in self.cells for place in plain_valves.field(k, *cell)}
        self.slips = {}

    def lying(self):
        return dict(self.bed.pairs())

    def pair_at(self, cell):
        return plain_valves.pair_at(self.lying(), self.grid[2], self.k, *cell)

    def do(self, word, *passed):
        if word == "grow":
            return grow(self.bed, *passed)
        if word == "rounds":
            return rounds(self.bed, *passed)
        if word == "wash":
            self.slips = {}
            cells = [cell for cell in self.cells if self.pair_at(cell) is None]
            gone = tuple(sorted(place for place in self.lying() if self.fields.get(place) in cells))
            self.bed.cut(gone)
            return gone
        if word == "slip":
            self.bed.slip(*passed)
            cell = self.fields[passed[0]]
            self.slips[cell] = self.slips.get(cell, 0) + 1
            return None
        return getattr(self.bed, word)(*passed)

    def wrong(self):
        lying = self.lying()
        return tuple(sorted(place for place in lying if lying[place] != self.right.get(place)))

    def lacking(self):
        lying = self.lying()
        return tuple(sorted(place for place in self.right if lying.get(place) != self.right[place]))

    def rows(self):
        return tuple(tuple(self.pair_at((column, row)) for column in range(len(self.grid[0])))
                     for row in range(len(self.grid[1])))
