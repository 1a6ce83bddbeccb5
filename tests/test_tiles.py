"""[4] to [6]: glues, sides, places beside one, tiles, sets of tiles."""

import unittest

from helping import NO_PLACES, NO_SIDES, TilesTest
from tilesregrow.beds import NONE, Bed, Tile, TileSet, beside
from tilesregrow.errors import BadNumber, BadPlace, BadTile, NoName, TakenName

DEEP = (1, (2, (3, (4, (5, ("six",))))))

# In the order of their repr: a name with an ' is written with ", the least sign; then come ', (, -, and the figures.
NAMES = ("b", "a", 10, 9, -3, -20, ("x", 1), ("x", (None,)), (), "it's", "", "B", DEEP, (None,), 0, "10", "a b")
ORDERED = ("it's", "", "10", "B", "a b", "a", "b", ("x", (None,)), ("x", 1), (), DEEP, (None,), -20, -3, 0, 10, 9)

A, B, C = ("a", 2), ("b", 1), ("c", 0)


def bare(name):
    return Tile(name, NONE, NONE, NONE, NONE)


class BesideTest(TilesTest):
    def test_the_four_places_in_the_order_of_the_sides(self):
        self.assert_same(beside((0, 0)), ((-1, 0), (0, -1), (1, 0), (0, 1)))
        self.assert_same(beside((5, -7)), ((4, -7), (5, -8), (6, -7), (5, -6)))
        self.assert_same(beside(place=(10 ** 30, 2)), ((10 ** 30 - 1, 2), (10 ** 30, 1), (10 ** 30 + 1, 2), (10 ** 30, 3)))

    def test_no_places(self):
        for value in NO_PLACES:
            self.assert_error(BadPlace, [value], beside, value)


class TileTest(TilesTest):
    def test_none(self):
        self.assert_same(NONE, (None, 0))

    def test_attributes(self):
        tile = Tile("t", A, B, C, NONE)
        self.assert_same((tile.name, tile.west, tile.south, tile.east, tile.north), ("t", A, B, C, NONE))

    def test_by_names(self):
        tile = Tile(north=NONE, east=C, south=B, west=A, name=("n", 1))
        self.assert_same((tile.name, tile.west, tile.south, tile.east, tile.north), (("n", 1), A, B, C, NONE))

    def test_glue_at(self):
        tile = Tile("t", A, B, C, NONE)
        self.assert_same([tile.glue_at(side) for side in range(4)], [A, B, C, NONE])
        self.assert_same(tile.glue_at(side=2), C)

    def test_glue_at_of_no_side(self):
        for side in NO_SIDES:
            self.assert_error(BadNumber, ["side", side], bare("t").glue_at, side)

    def test_names_and_labels_of_all_kinds(self):
        for datum in NAMES:
            glues = [(datum, 0), (datum, 1), (datum, 2), (None, 2)]
            tile = Tile(datum, *glues)
            self.assert_same(tile.name, datum)
            self.assert_same([tile.glue_at(side) for side in range(4)], glues)

    def test_no_name(self):
        self.assert_error(BadTile, [None], Tile, None, NONE, NONE, NONE, NONE)
        self.assert_error(BadTile, [None], Tile, None, 5, NONE, NONE, NONE)

    def test_none_can_be_a_label_but_no_glue(self):
        self.assert_same(Tile("t", (None, 1), NONE, NONE, NONE).west, (None, 1))
        self.assert_error(BadTile, ["t"], Tile, "t", None, NONE, NONE, NONE)

    def test_no_glues(self):
        wrong = (None, 0, "ab", (), ("a",), ("a", 1, 2), ["a", 1], ("a", 3), ("a", -1), ("a", True), ("a", False),
                 ("a", None), ("a", "1"), ("a", 1.0), ("a", (1,)), (1, "a"), {"a": 1, "b": 2}, ("a", [1]))
        for value in wrong:
            for side in range(4):
                glues = [A, B, C, NONE]
                glues[side] = value
                self.assert_error(BadTile, [("n", 2)], Tile, ("n", 2), *glues)


class TileSetTest(TilesTest):
    def test_no_tiles(self):
        for empty in ([], ()):
            tile_set = TileSet(empty)
            self.assert_same(tile_set.tiles, ())
            self.assert_same(tile_set.names(), ())
            self.assertIs(tile_set.has("a"), False)
            self.assert_same(tile_set.with_glue(0, NONE), ())
            self.assert_error(NoName, ["a"], tile_set.tile_of, "a")

    def test_tiles_stay_in_the_passed_order(self):
        tiles = [bare(name) for name in NAMES]
        for passed in (tiles, tuple(tiles), tiles[::-1]):
            tile_set = TileSet(tiles=passed)
            self.assertIsInstance(tile_set.tiles, tuple)
            self.assertEqual(len(tile_set.tiles), len(tiles))
            for own, told in zip(tile_set.tiles, passed):
                self.assertIs(own, told)

    def test_a_list_that_is_changed_behind_the_call(self):
        tiles = [bare("b"), bare("a")]
        tile_set = TileSet(tiles)
        tiles.append(bare("c"))
        tiles[0] = bare("z")
        self.assert_same([tile.name for tile in tile_set.tiles], ["b", "a"])
        self.assert_same(tile_set.names(), ("a", "b"))
        self.assertIs(tile_set.has("z"), False)

    def test_what_is_passed_stays_as_it_was(self):
        tiles = [bare("b"), bare("a")]
        kept = list(tiles)
        TileSet(tiles).names()
        self.assertEqual(tiles, kept)

    def test_names_are_ordered_by_their_repr(self):
        self.assertEqual(sorted(NAMES, key=repr), list(ORDERED))
        for names in (NAMES, NAMES[::-1], ORDERED, NAMES[5:] + NAMES[:5]):
            self.assert_same(TileSet([bare(name) for name in names]).names(), ORDERED)

    def test_tile_of_and_has(self):
        tiles = [bare(name) for name in NAMES]
        tile_set = TileSet(tiles)
        for tile in tiles:
            self.assertIs(tile_set.tile_of(tile.name), tile)
            self.assertIs(tile_set.tile_of(name=tile.name), tile)
            self.assertIs(tile_set.has(tile.name), True)
        for name in ("c", 11, None, ("x",), ("x", 2), (1, (2,)), "A"):
            self.assertIs(tile_set.has(name), False)
            self.assert_error(NoName, [name], tile_set.tile_of, name)

    def test_names_that_stand_twice(self):
        def of(names):
            return TileSet([bare(name) for name in names])
        self.assert_error(TakenName, ["a"], of, ["a", "a"])
        self.assert_error(TakenName, ["b"], of, ["a", "b", "b", "a"])
        self.assert_error(TakenName, ["a"], of, ["c", "a", "b", "a", "b", "c"])
        self.assert_error(TakenName, [("x", 1)], of, ("c", ("x", 1), ("x", 1), ("x", 1)))
        tile = bare("t")
        self.assert_error(TakenName, ["t"], TileSet, [tile, tile])
        self.assert_same(of(["1", 1, (1,), ("1",)]).names(), ("1", ("1",), (1,), 1))

    def test_with_glue(self):
        tile_set = TileSet([
            Tile("d", A, B, NONE, C), Tile("b", A, A, NONE, NONE), Tile(7, ("a", 1), B, A, C), Tile("a", NONE, B, A, A)])
        told = {
            (0, A): ("b", "d"), (0, ("a", 1)): (7,), (0, NONE): ("a",), (0, B): (), (0, ("a", 0)): (),
            (1, B): ("a", "d", 7), (1, A): ("b",), (1, ("b", 2)): (),
            (2, NONE): ("b", "d"), (2, A): ("a", 7), (2, C): (),
            (3, C): ("d", 7), (3, NONE): ("b",), (3, A): ("a",), (3, ("c", 1)): ()}
        for (side, glue), names in told.items():
            self.assert_same(tile_set.with_glue(side, glue), names)
        self.assert_same(tile_set.with_glue(glue=A, side=0), ("b", "d"))

    def test_with_glue_in_the_order_of_repr(self):
        tile_set = TileSet([Tile(name, NONE, A, A, C) for name in NAMES])
        self.assert_same(tile_set.with_glue(0, NONE), ORDERED)
        self.assert_same(tile_set.with_glue(1, A), ORDERED)
        self.assert_same(tile_set.with_glue(3, C), ORDERED)

    def test_with_glue_of_no_side(self):
        for side in NO_SIDES:
            self.assert_error(BadNumber, ["side", side], TileSet([bare("t")]).with_glue, side, NONE)


class GlueTest(TilesTest):
    """Which glues bond: asked of a bed with a seed in the midst."""

    def test_equal_glues_bond_on_sides_that_face_each_other(self):
        for strength in (0, 1, 2):
            for label in (None, 0, "x", ("x", None), DEEP):
                glue = (label, strength)
                seed = Tile("seed", glue, glue, glue, glue)
                for side in range(4):
                    glues = [NONE] * 4
                    glues[side] = glue
                    bed = Bed(TileSet([seed, Tile("t", *glues)]), (0, 0), "seed")
                    for met, place in enumerate(beside((0, 0))):
                        told = strength if side == (met + 2) % 4 else 0
                        self.assert_same(bed.bonds(place, "t"), told)

    def test_unlike_glues_do_not_bond(self):
        seed = Tile("seed", NONE, NONE, ("x", 2), NONE)
        for glue in (("y", 2), ("x", 1), ("x", 0), (("x",), 2), (None, 2), NONE):
            bed = Bed(TileSet([seed, Tile("t", glue, NONE, NONE, NONE)]), (0, 0), "seed")
            self.assert_same(bed.bonds((1, 0), "t"), 0)


if __name__ == "__main__":
    unittest.main()
