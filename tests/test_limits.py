"""[17]: beds, sets and rivals as many as the document lets callers have."""

import unittest

import plain
from helping import TilesTest
from tilesregrow.beds import NONE, Bed, Tile, TileSet
from tilesregrow.ends import (Heals, OneEnd, Parting, Scar, ends_of, first_run, healing_of, is_healing, is_one_end,
                              is_parting, is_scar, rounds_of, scar_of, settle)
from tilesregrow.errors import TooMany

MANY, END, RIVALS = 20000, 2000, 200


class LargeBedsTest(TilesTest):
    def test_a_row_of_tiles(self):
        bed = plain.seeded(plain.chain_set(MANY))
        run = tuple(((x, 0), ("row", x)) for x in range(1, MANY))
        self.assertEqual(first_run(bed, MANY), run)
        self.assertEqual(rounds_of(bed, MANY), tuple((pair,) for pair in run))
        self.assert_error(TooMany, ["tiles", MANY, MANY - 1], first_run, bed, MANY - 1)
        self.assert_error(TooMany, ["tiles", MANY, MANY - 1], settle, bed, MANY - 1)
        self.assert_same(bed.how_many(), 1)
        self.assert_same(settle(bed, MANY), MANY - 1)
        self.assertEqual(bed.pairs(), (((0, 0), ("row", 0)),) + run)
        self.assert_same(bed.may_come(), ())

    def test_a_rectangle_of_tiles(self):
        width, height = 100, 200
        bed = Bed(plain.grid_set(width, height), (0, 0), (0, 0))
        found = rounds_of(bed, MANY)
        self.assert_same(len(found), width + height - 2)
        for number, step in enumerate(found, start=1):
            self.assertEqual(step, tuple(((x, number - x), (x, number - x)) for x in range(width)
                                         if 0 <= number - x < height))
        for x in range(width):
            for y in range(height):
                if (x, y) != (0, 0):
                    self.assertEqual(bed.may_come_at((x, y)), ((x, y),))
                    bed.come((x, y), (x, y))
        self.assert_same(bed.how_many(), MANY)
        twin = bed.twin()
        self.assert_same(bed.cut([place for place in bed.places() if place[0] > 0]), MANY - height)
        self.assertEqual(bed.may_come(), (((1, 0), (1, 0)),))
        self.assert_same(twin.how_many(), MANY)
        self.assert_same(settle(bed, MANY), MANY - height)
        self.assertEqual(bed.pairs(), twin.pairs())

    def test_a_set_of_tiles_that_all_fit(self):
        glue = ("all", 2)
        tile_set = TileSet([Tile(("t", number), glue, glue, glue, glue) for number in range(MANY)])
        names = tile_set.names()
        self.assertEqual(names, tuple(sorted([("t", number) for number in range(MANY)], key=repr)))
        for side in range(4):
            self.assertEqual(tile_set.with_glue(side, glue), names)
        bed = Bed(tile_set, (0, 0), ("t", 5))
        self.assertEqual(bed.fitting((0, 1)), names)
        self.assertEqual(bed.may_come_at((1, 0)), names)
        self.assert_error(TooMany, ["tiles", 20201, MANY], rounds_of, bed, MANY)
        self.assert_error(TooMany, ["tiles", MANY + 1, MANY], first_run, bed, MANY)

    def test_a_set_of_tiles_with_one_weak_glue_for_all(self):
        weak = ("w", 1)
        tiles = [Tile(number, weak, (number, 1), NONE, NONE) for number in range(MANY - 2)]
        tiles += [Tile("w", NONE, NONE, weak, NONE), Tile("s", NONE, NONE, NONE, (77, 1))]
        bed = Bed(TileSet(tiles), (0, 0), "s")
        bed.slip((-1, 1), "w")
        self.assert_same(bed.may_come(), (((0, 1), 77),))


class LargeEndsTest(TilesTest):
    def test_rivals_at_many_places(self):
        at = tuple(range(1, END - 1, (END - 1) // RIVALS))[:RIVALS]
        self.assertEqual(len(at), RIVALS)
        bed = plain.seeded(plain.chain_set(END, at))
        paper = ends_of(bed, END)
        self.assertIsInstance(paper, OneEnd)
        self.assertEqual(paper.comings, tuple(((x, 0), ("row", x)) for x in range(1, END)))
        self.assertEqual(paper.walls, tuple(((x, 0), ("rival", x), tuple((y, 0) for y in range(x))) for x in at))
        self.assertIs(is_one_end(bed, paper), True)
        self.assertIs(is_one_end(bed, OneEnd(paper.comings, paper.walls[:-1])), False)
        settle(bed, END)
        hole = [(x, 0) for x in range(1, END)]
        self.assertIsNone(scar_of(bed, hole))
        scar = scar_of(bed, hole[:at[-1]])
        self.assertEqual(scar.hole, tuple(hole[:at[-1]]))
        self.assertIs(is_scar(bed, scar), True)
        self.assertIsInstance(healing_of(bed), Scar)
        self.assertIs(is_scar(bed, healing_of(bed)), True)

    def test_rivals_at_one_place(self):
        chain = plain.chain_set(END)
        last = (("chain", END - 1), 2)
        rivals = [Tile(number, NONE, NONE, last, NONE) for number in range(RIVALS)]
        bed = plain.seeded(TileSet([*chain.tiles, *rivals]))
        paper = ends_of(bed, END)
        self.assertIsInstance(paper, OneEnd)
        self.assertEqual(paper.walls, tuple(
            ((END - 2, 0), name, tuple((x, 0) for x in range(END - 2))) for name in sorted(range(RIVALS), key=str)))
        self.assertIs(is_one_end(bed, paper), True)
        bed.slip((END - 1, 0), ("row", END - 1))
        paper = ends_of(bed, END)
        self.assertIsInstance(paper, Parting)
        self.assertIs(is_parting(bed, paper), True)

    def test_a_large_bed_that_heals(self):
        bed = Bed(plain.grid_set(40, 50), (0, 0), (0, 0))
        paper = ends_of(bed, END)
        self.assertIsInstance(paper, OneEnd)
        self.assert_same(paper.walls, ())
        self.assertIs(is_one_end(bed, paper), True)
        settle(bed, END)
        healing = healing_of(bed)
        self.assertIsInstance(healing, Heals)
        self.assertEqual(healing.comings, paper.comings)
        self.assertIs(is_healing(bed, healing), True)
        self.assertIsNone(scar_of(bed, [place for place in bed.places() if place != (0, 0)]))

    def test_a_large_bed_that_is_not_made_from_its_seed(self):
        tiles = plain.chain_set(END - 1).tiles + (Tile("s", NONE, NONE, NONE, NONE),)
        bed = Bed(TileSet(tiles), (0, 7), "s")
        bed.slip((0, 0), ("row", 0))
        settle(bed, END)
        paper = healing_of(bed)
        self.assertIsInstance(paper, Scar)
        self.assertEqual(paper.hole, tuple((x, 0) for x in range(END - 1)))
        self.assert_same(paper.comings, ())
        self.assertIs(is_scar(bed, paper), True)


if __name__ == "__main__":
    unittest.main()
