"""[62] to [64]: what valve blocks bear, and what they do not."""

import random
import unittest

import plain_valves as plain
from helping import TilesTest
from plain_valves import XOR, made
from test_valves import bed_of_valves, whole_bed
from tilesregrow.growth import grow_on
from tilesregrow.valves import Valves, local_wash, pair_at, turning_run


def sticking(rng, bed, place):
    """A tile of a block that has a bond at this empty place, or None."""
    names = []
    for side, other in enumerate(((-1, 0), (0, -1), (1, 0), (0, 1))):
        name = bed.at((place[0] + other[0], place[1] + other[1]))
        if name is not None:
            glue = bed.tile_set.tile_of(name).glue_at((side + 2) % 4)
            names += bed.tile_set.with_glue(side, glue) if glue[1] else ()
    names = sorted({name for name in names if name[0] == "block"}, key=repr)
    return rng.choice(names) if names else None


def grow_some(rng, bed, many):
    """So many tiles come, any ones that may."""
    for _ in range(many):
        pairs = bed.may_come()
        if not pairs:
            break
        bed.come(*rng.choice(pairs))


class Slipping:
    """A bed of a grid on which deeds of all kinds are done, with fewer than k slips in each block between washes."""

    def __init__(self, rng, grid, k):
        self.rng, self.grid, self.k = rng, grid, k
        self.valves = Valves(made(grid), k)
        self.bed = rng.choice((bed_of_valves, whole_bed))(self.valves)
        self.right = plain.right(*grid, k)
        for place, name in self.right.items():
            if -1 in place and self.bed.at(place) is None:
                self.bed.slip(place, name)
        self.cells = [(column, row) for column in range(len(grid[0])) for row in range(len(grid[1]))]
        self.slips = dict.fromkeys(self.cells, 0)

    def slip(self, cell):
        """A tile slips in this block where something lies beside: at an output, or any place."""
        if self.slips[cell] >= self.k - 1:
            return
        size = 4 * self.k
        outputs = [(size * cell[0] + size - 1, size * cell[1] + 2 * j) for j in range(self.k)]
        outputs += [(size * cell[0] + 2 * i, size * cell[1] + size - 1) for i in range(self.k)]
        places = self.rng.choice((outputs, plain.field(self.k, *cell), plain.field(self.k, *cell)))
        for place in self.rng.sample(places, len(places)):
            name = sticking(self.rng, self.bed, place) if self.bed.at(place) is None else None
            if name is not None:
                self.bed.slip(place, name)
                self.slips[cell] += 1
                return

    def cut(self):
        cell = self.rng.choice(self.cells)
        field = [place for place in plain.field(self.k, *cell) if self.bed.at(place) is not None]
        part = self.rng.choice((0.1, 0.5, 1))
        self.bed.cut([place for place in field if self.rng.random() < part])

    def deed(self):
        kind = self.rng.random()
        if kind < 0.25:
            self.cut()
        elif kind < 0.6:
            self.slip(self.rng.choice(self.cells))
        elif kind < 0.8:
            grow_some(self.rng, self.bed, self.rng.randrange(12))
        else:
            grow_on(self.bed, 10 ** 6)

    def wrong_pairs(self):
        """The cells with a whole pair that is not their own."""
        own = plain.cells(*self.grid)
        return [(column, row) for column, row in self.cells
                if pair_at(self.valves, self.bed, column, row) not in (None, own[row][column])]

    def wash(self):
        self.slips = dict.fromkeys(self.cells, 0)
        return local_wash(self.valves, self.bed)

    def wrong(self):
        return [pair for pair in self.bed.pairs() if self.right.get(pair[0]) != pair[1]]


class NoSlipsTest(TilesTest):
    def test_any_order_and_any_holes(self):
        rng = random.Random(121)
        for k, many in ((1, 12), (2, 4), (3, 1)):
            for grid in plain.random_grids(many, 122 + k, wide=2, high=2):
                valves = Valves(made(grid), k)
                right = plain.right(*grid, k)
                bed = bed_of_valves(valves)
                for turn in range(4):
                    for _ in range(rng.randrange(len(right))):
                        self.assert_right(bed, right)
                        grow_some(rng, bed, 1)
                    places = [place for place in bed.places() if place != (-1, -1)]
                    part = rng.choice((0.1, 0.5, 0.95))
                    bed.cut([place for place in places if rng.random() < part])
                    self.assert_right(bed, right)
                while bed.may_come():
                    self.assert_right(bed, right)
                    grow_some(rng, bed, 1)
                self.assertEqual(dict(bed.pairs()), right)

    def assert_right(self, bed, right):
        """What may come is right, and something may come as long as something lacks."""
        pairs = bed.may_come()
        self.assertTrue(all(right.get(place) == name for place, name in pairs))
        self.assertEqual(bool(pairs), bed.how_many() < len(right))


class FewerThanKTest(TilesTest):
    def assert_borne(self, slipping, deeds):
        for _ in range(deeds):
            slipping.deed()
            self.assertEqual(slipping.wrong_pairs(), [])
            if slipping.rng.random() < 0.1:
                slipping.wash()
                self.assertEqual(slipping.wrong(), [])
        grow_on(slipping.bed, 10 ** 6)
        self.assertEqual(slipping.wrong_pairs(), [])
        slipping.wash()
        self.assertEqual(slipping.wrong(), [])
        grow_on(slipping.bed, 10 ** 6)
        self.assertEqual(dict(slipping.bed.pairs()), slipping.right)

    def test_random_deeds(self):
        rng = random.Random(131)
        for k, many, deeds in ((2, 40, 30), (3, 8, 40), (4, 2, 40)):
            for grid in [XOR, *plain.random_grids(many, 132 + k, wide=3 if k == 2 else 2, high=2)]:
                self.assert_borne(Slipping(rng, grid, k), deeds)

    def test_all_slips_ahead_of_all_comings(self):
        # k - 1 slips in each block, in blocks side by side, and only then all that may come.
        rng = random.Random(141)
        for k, many in ((2, 60), (3, 15)):
            for grid in plain.random_grids(many, 142 + k, wide=3 if k == 2 else 2, high=2, symbols=2):
                slipping = Slipping(rng, grid, k)
                size = 4 * k
                for column, row in slipping.cells:
                    if rng.random() < 0.6:
                        slipping.bed.cut([place for place in plain.field(k, column, row)
                                          if rng.random() < 0.9 or place[0] // size != column])
                for _ in range(k - 1):
                    for cell in rng.sample(slipping.cells, len(slipping.cells)):
                        slipping.slip(cell)
                    grow_some(rng, slipping.bed, rng.choice((0, 5)))
                grow_on(slipping.bed, 10 ** 6)
                self.assertEqual(slipping.wrong_pairs(), [])
                slipping.wash()
                self.assertEqual(slipping.wrong(), [])


class KSlipsTest(TilesTest):
    def test_a_wrong_block_is_whole_and_stays(self):
        for k in (1, 2, 3):
            valves = Valves(made(XOR), k)
            bed = whole_bed(valves)
            bed.cut(plain.field(k, 1, 0))
            for word, place, name in turning_run(valves, 1, 0, (0, 0)):
                (bed.slip if word == "slip" else bed.come)(place, name)
            self.assert_same(pair_at(valves, bed, 1, 0), (0, 0))
            self.assert_same(local_wash(valves, bed), ())
            self.assert_same(pair_at(valves, bed, 1, 0), (0, 0))

    def test_each_of_the_slips_is_needed(self):
        # Without one of them the block does not come.
        for k in (1, 2, 3):
            valves = Valves(made(XOR), k)
            deeds = turning_run(valves, 0, 0, (1, 1))
            for left in range(k):
                bed = whole_bed(valves)
                bed.cut(plain.field(k, 0, 0))
                right = {("block", 1, 0, x, y) for x, y in plain.places(k)}
                slips = [deed for deed in deeds if deed[0] == "slip"]
                for at, (_, place, name) in enumerate(slips):
                    # All that may come of this pair comes; what is of another one is kept away.
                    if at != left and bed.bonds(place, name) > 0 and bed.at(place) is None:
                        bed.slip(place, name)
                    self.grow_but(bed, right)
                self.assert_same(pair_at(valves, bed, 0, 0), None)

    def grow_but(self, bed, barred):
        while True:
            pairs = [pair for pair in bed.may_come() if pair[1] not in barred]
            if not pairs:
                break
            bed.come(*pairs[0])


if __name__ == "__main__":
    unittest.main()
