"""Beds with what belongs on them: of machines that end, and of grids with valves."""

from tilesregrow.beds import Bed
from tilesregrow.blocks import Picture, bed_of, label_at, outcome
from tilesregrow.errors import BadName, BadPlace, Loose, Taken
from tilesregrow.growth import bring, grow_on, rounds_on
from tilesregrow.healing import wash
from tilesregrow.kinds import is_place
from tilesregrow.valves import Valves, border_pairs, cell_at, local_wash, pair_at, right_tiles


class World:
    """The bed of a machine that ends, at first with its seed alone."""

    def __init__(self, sweeps, most):
        self.sweeps = sweeps
        self.picture = Picture(sweeps, most)
        self.bed = bed_of(sweeps)

    def come(self, place, name):
        """The tile comes."""
        self.bed.come(place, name)

    def slip(self, place, name):
        """The tile sticks by chance, with whatever bonds."""
        self.bed.slip(place, name)

    def cut(self, places):
        """The tiles at these places go; returns how many went."""
        return self.bed.cut(places)

    def wash(self):
        """What is not known to be right goes; returns the tuple of the places whose tiles went, ascending."""
        return wash(self.sweeps, self.bed)

    def grow(self, many):
        """So many tiles come, or as many as may, each time the first one; returns how many came."""
        return grow_on(self.bed, many)

    def rounds(self, many):
        """So many rounds, or as long as something may come; returns how many there were."""
        return rounds_on(self.bed, many)

    def wrong(self):
        """The tuple of the places with a tile that is not of the picture, ascending."""
        return self.picture.strange(self.bed)

    def lacking(self):
        """The tuple of the places at which a tile of the picture does not lie, ascending."""
        return self.picture.lacking(self.bed)

    def rows(self):
        """The rows of the picture: the letters of the cells that are whole, None for all others."""
        return tuple([self._letters(row, labels) for row, labels in enumerate(self.picture.labels)])

    def _letters(self, row, labels):
        return tuple([self._letter(column, row, label) for column, label in enumerate(labels)])

    def _letter(self, column, row, label):
        if label_at(self.bed, column, row) != label:
            return None
        return outcome(self.sweeps, label)[2]

    def is_whole(self):
        """Whether just the picture lies."""
        return self.wrong() == () and self.lacking() == ()


class GridWorld:
    """The bed of a grid with valves, at first with its border alone."""

    def __init__(self, grid, k):
        self.valves = Valves(grid, k)
        self.bed = Bed(self.valves.tile_set, self.valves.seed_place, self.valves.seed_name)
        self.slips = {}
        self._right = right_tiles(self.valves)
        self._places = sorted(self._right)
        bring(self.bed, border_pairs(self.valves)[1:])

    def come(self, place, name):
        """The tile comes."""
        self.bed.come(place, name)

    def slip(self, place, name):
        """The tile of a block sticks by chance in a block, where a bond holds it."""
        self._check_block_place(place)
        tile = self.valves.tile_set.tile_of(name)
        if tile.name[0] != "block":
            raise BadName(name)
        if self.bed.at(place) is not None:
            raise Taken(place)
        if self.bed.bonds(place, name) == 0:
            raise Loose(place, 0)
        self.bed.slip(place, name)
        self._count(cell_at(self.valves, place))

    def _check_block_place(self, place):
        if not is_place(place) or cell_at(self.valves, place) is None:
            raise BadPlace(place)

    def _count(self, cell):
        slips = {other: self.slips[other] for other in self.slips}
        slips[cell] = slips.get(cell, 0) + 1
        self.slips = slips

    def cut(self, places):
        """The tiles at these places of blocks go; returns how many went."""
        for place in places:
            self._check_block_place(place)
        return self.bed.cut(places)

    def wash(self):
        """Each block that is not whole is cut out; returns the tuple of the places whose tiles went, ascending."""
        self.slips = {}
        return local_wash(self.valves, self.bed)

    def grow(self, many):
        """So many tiles come, or as many as may, each time the first one; returns how many came."""
        return grow_on(self.bed, many)

    def rounds(self, many):
        """So many rounds, or as long as something may come; returns how many there were."""
        return rounds_on(self.bed, many)

    def wrong(self):
        """The tuple of the places with a tile that does not belong there, ascending."""
        return tuple([place for place, name in self.bed.pairs() if self._right.get(place) != name])

    def lacking(self):
        """The tuple of the places at which a tile that belongs there does not lie, ascending."""
        return tuple([place for place in self._places if self.bed.at(place) != self._right[place]])

    def rows(self):
        """The rows of the grid: the pairs of the cells that are whole, None for all others."""
        return tuple([tuple([pair_at(self.valves, self.bed, column, row) for column in range(len(pairs))])
                      for row, pairs in enumerate(self.valves.cells)])

    def is_whole(self):
        """Whether just what belongs there lies."""
        return self.wrong() == () and self.lacking() == ()

    def bears(self):
        """Whether each cell has had fewer slips than it must not bear, since the last wash."""
        return all([self.slips[cell] < self.valves.k for cell in self.slips])
