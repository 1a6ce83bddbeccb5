"""[44], [56] and [65]: pictures, shapes and grids as large as the document lets callers have."""

import random
import unittest

import plain_healing
import plain_valves
from helping import TilesTest
from test_shapes import tower_rows, width_of
from test_slips import grow_some
from test_valves import bed_of_valves, whole_bed
from tilesregrow.blocks import Picture, bed_of
from tilesregrow.ends import settle
from tilesregrow.growth import grow_on, rounds_on
from tilesregrow.healing import heaviest, hole_of, is_inner, kept_cells, rounds_left, times, wash
from tilesregrow.shapes import lengths_of, shaped, square, stairs, tower
from tilesregrow.sweeps import run
from tilesregrow.valves import Valves, local_wash, pair_at, right_tiles, turning_run


class LargeShapesTest(TilesTest):
    def test_towers(self):
        for rows in (1999, 2000, 2001, 2050):
            self.assertEqual(run(tower(rows), rows), tuple(tower_rows(rows)))

    def test_squares_and_stairs(self):
        for many in (399, 400):
            self.assertEqual(lengths_of(square(many), many), (many,) * many)
            width = width_of(many)
            told = [width + min(row // 2, many - 1) for row in range(2 * many + 1)]
            self.assertEqual(lengths_of(stairs(many), 2 * many + 1), tuple(told))

    def test_four_hundred_lengths(self):
        lengths = tuple(5 + min(row, 398) // 2 for row in range(400))
        self.assertEqual(lengths_of(shaped(lengths), 400), lengths)
        self.assertEqual(lengths_of(shaped((400,) * 400), 400), (400,) * 400)


class LargePicturesTest(TilesTest):
    def test_four_thousand_cells(self):
        rng = random.Random(151)
        sweeps = square(63)
        picture = Picture(sweeps, 63)
        bed = bed_of(sweeps)
        self.assert_same(rounds_left(picture, bed), 2 * 63 * 63 + 62)
        self.assertEqual([place for place, _ in times(picture, bed)], list(picture.lacking(bed)))
        settle(bed, picture.many)
        self.assert_same(len(kept_cells(sweeps, bed)), 63 * 63)
        self.assert_same(wash(sweeps, bed), ())
        inner = [(column, row) for column in range(63) for row in range(63) if is_inner(picture, column, row)]
        self.assertEqual(len(inner), 61 * 62)
        weight, chain = heaviest(picture, inner)
        self.assert_same((weight, plain_healing.weight(chain)), (62 * (2 * 61 + 1),) * 2)
        torn = bed.twin()
        torn.cut(hole_of(inner))
        self.assert_same(rounds_left(picture, torn), weight)
        self.assert_same(rounds_on(torn, 10 ** 6), weight)
        self.assertEqual(torn.pairs(), bed.pairs())
        for _ in range(50):
            place = rng.choice(bed.places()[1:])
            bed.cut([place])
            bed.slip(place, rng.choice(bed.tile_set.names()))
        wash(sweeps, bed)
        self.assert_same(picture.strange(bed), ())
        grow_on(bed, 10 ** 6)
        self.assertEqual(bed.pairs(), torn.pairs())

    def test_a_high_tower(self):
        sweeps = tower(360)
        picture = Picture(sweeps, 360)
        bed = bed_of(sweeps)
        cells = len(picture.labels) * len(picture.labels[0])
        self.assertGreater(cells, 2500)
        self.assert_same(rounds_on(bed, 10 ** 6), 2 * cells + 359)
        self.assert_same((picture.lacking(bed), picture.strange(bed)), ((), ()))


class LargeGridsTest(TilesTest):
    def test_grids(self):
        rng = random.Random(152)
        for k, size in ((1, 5), (2, 5), (3, 3), (4, 3)):
            states, letters = (0, 1, ("q", 1)), ("a", "b", 0)
            rule = {(state, letter): (rng.choice(states), rng.choice(letters))
                    for state in states for letter in letters}
            grid = (tuple(rng.choice(letters) for _ in range(size)), tuple(rng.choice(states) for _ in range(size)), rule)
            valves = Valves(plain_valves.made(grid), k)
            right = plain_valves.right(*grid, k)
            self.assertEqual(right_tiles(valves), right)
            bed = bed_of_valves(valves)
            grow_some(rng, bed, 100)
            self.assertEqual(settle(bed, len(right)), len(right) - bed_of_valves(valves).how_many() - 100)
            self.assertEqual(dict(bed.pairs()), right)
            own = plain_valves.cells(*grid)
            pair = next(pair for pair in rule if (pair[0] == own[-1][-1][0]) != (pair[1] == own[-1][-1][1]))
            bed.cut(plain_valves.field(k, size - 1, size - 1))
            for word, place, name in turning_run(valves, size - 1, size - 1, pair):
                (bed.slip if word == "slip" else bed.come)(place, name)
            self.assert_same(pair_at(valves, bed, size - 1, size - 1), pair)
            bed.cut([(0, 0)])
            self.assert_same(len(local_wash(valves, bed)), len(plain_valves.places(k)) - 1)
            self.assertEqual(whole_bed(valves).pairs(), tuple(sorted(right.items())))


if __name__ == "__main__":
    unittest.main()
