"""[11], [12] and [14]: first runs, beds with one end and beds that part."""

import unittest

import plain
from helping import NO_NUMBERS, TilesTest
from test_bed import all_of, corner_bed, random_histories, whole_corner
from test_rounds import endless_bed, rival_bed
from tilesregrow.beds import NONE, Bed, Tile, TileSet
from tilesregrow.ends import OneEnd, Parting, ends_of, first_run, is_one_end, is_parting
from tilesregrow.errors import BadNumber, TooMany

GRID_RUN = tuple(((x, y), (x, y)) for x in range(3) for y in range(3) if (x, y) != (0, 0))
GRID_WITHOUT = ((0, 0), (0, 1), (0, 2), (1, 0), (2, 0))


def walled_grid():
    """Nine tiles; the rivals of the one in the midst stick to the tiles to its east and north alone."""
    east, north = (("east", 1, 1), 1), (("north", 1, 1), 1)
    return Bed(TileSet([
        Tile("z", NONE, NONE, east, north), Tile("rival", NONE, NONE, east, north), Tile("half", NONE, NONE, east, NONE),
        *plain.grid_set(3, 3).tiles]), (0, 0), (0, 0))


def open_grid():
    """The same, but one rival sticks to a tile to the west and one to the south of the midst."""
    west, south = (("east", 0, 1), 1), (("north", 1, 0), 1)
    return Bed(TileSet([*plain.grid_set(3, 3).tiles, Tile("rival", west, south, NONE, NONE)]), (0, 0), (0, 0))


def walled_chain():
    """A row of five tiles; the rivals of two of them stick to the tiles to their east; a stone sticks to nothing."""
    stone = Tile("stone", NONE, NONE, NONE, NONE)
    return plain.seeded(TileSet([*plain.chain_set(5, (1, 3)).tiles, stone]))


class FirstRunTest(TilesTest):
    def test_each_time_the_first_pair_comes(self):
        self.assert_same(first_run(walled_grid(), 9), GRID_RUN)
        self.assert_same(first_run(most=9, bed=walled_grid()), GRID_RUN)
        self.assert_same(first_run(corner_bed(), 4), (((0, 1), "b"), ((1, 0), "a"), ((1, 1), "c")))
        self.assert_same(first_run(rival_bed(), 3), (((1, 0), "b"), ((2, 0), -1)))

    def test_what_could_not_come_at_first_comes_ahead_of_later_places(self):
        bed = Bed(TileSet([
            Tile("s", ("w", 2), NONE, ("e", 2), NONE), Tile("w", ("v", 2), NONE, ("w", 2), NONE),
            Tile("v", NONE, NONE, ("v", 2), NONE), Tile("e", ("e", 2), NONE, NONE, NONE)]), (0, 0), "s")
        self.assert_same(first_run(bed, 9), (((-1, 0), "w"), ((-2, 0), "v"), ((1, 0), "e")))

    def test_the_first_name_is_told_when_the_tile_comes(self):
        # At (1, 1) only "y" may come at first, but "b" once (0, 1) bears its tile.
        bed = Bed(TileSet([
            Tile("s", NONE, NONE, ("e", 2), ("n", 2)), Tile("e", ("e", 2), NONE, NONE, ("up", 2)),
            Tile("n", NONE, ("n", 2), ("right", 2), NONE), Tile("y", NONE, ("up", 2), NONE, NONE),
            Tile("b", ("right", 2), NONE, NONE, NONE)]), (0, 0), "s")
        self.assert_same(first_run(bed, 9), (((0, 1), "n"), ((1, 0), "e"), ((1, 1), "b")))
        bed.come((1, 0), "e")
        self.assert_same(bed.may_come(), (((0, 1), "n"), ((1, 1), "y")))
        self.assert_same(first_run(bed, 9), (((0, 1), "n"), ((1, 1), "b")))

    def test_an_ended_bed(self):
        for most in (0, 1, 4, 50):
            self.assert_same(first_run(whole_corner(), most), ())

    def test_errors(self):
        for most in NO_NUMBERS:
            self.assert_error(BadNumber, ["most", most], first_run, corner_bed(), most)
            self.assert_error(BadNumber, ["most", most], first_run, endless_bed(), most)
        self.assert_error(TooMany, ["tiles", 2, 0], first_run, corner_bed(), 0)
        for most in (1, 2, 3):
            self.assert_error(TooMany, ["tiles", most + 1, most], first_run, corner_bed(), most)
        for most in (1, 2, 50):
            self.assert_error(TooMany, ["tiles", most + 1, most], first_run, endless_bed(), most)
        bed = corner_bed()
        bed.come((1, 0), "a")
        bed.slip((9, 9), 4)
        self.assert_error(TooMany, ["tiles", 4, 1], first_run, bed, 1)
        self.assert_error(TooMany, ["tiles", 5, 4], first_run, bed, 4)

    def test_the_bed_stays_as_it_is(self):
        bed = corner_bed()
        before = all_of(bed)
        first_run(bed, 4)
        self.assert_error(TooMany, ["tiles", 4, 3], first_run, bed, 3)
        self.assertEqual(all_of(bed), before)

    def test_beds_behind_many_deeds(self):
        for bed, told, lying in random_histories(25, 41):
            run = plain.first_run(told, lying, 60)
            if run is None:
                self.assert_error(TooMany, ["tiles", max(61, len(lying) + 1), 60], first_run, bed, 60)
            else:
                self.assert_same(first_run(bed, 60), run)


class EndsTest(TilesTest):
    def assert_one_end(self, bed, comings, walls):
        before = all_of(bed)
        paper = ends_of(bed, 100)
        self.assertIsInstance(paper, OneEnd)
        self.assert_same(paper.comings, comings)
        self.assert_same(paper.walls, walls)
        self.assertIs(is_one_end(bed, paper), True)
        self.assertEqual(all_of(bed), before)

    def assert_parts(self, bed):
        before = all_of(bed)
        paper = ends_of(bed, 100)
        self.assertIsInstance(paper, Parting)
        told, lying = plain.glues(bed.tile_set), dict(bed.pairs())
        self.assertTrue(plain.is_parting(told, lying, paper.one, paper.two))
        self.assertIs(is_parting(bed, paper), True)
        self.assertEqual(all_of(bed), before)
        return paper

    def test_attributes(self):
        paper = OneEnd(walls="w", comings="c")
        self.assertEqual((paper.comings, paper.walls), ("c", "w"))
        paper = OneEnd("c", "w")
        self.assertEqual((paper.comings, paper.walls), ("c", "w"))
        paper = Parting(two=2, one=1)
        self.assertEqual((paper.one, paper.two), (1, 2))
        paper = Parting(1, 2)
        self.assertEqual((paper.one, paper.two), (1, 2))
        self.assertNotIsInstance(paper, OneEnd)

    def test_without_rivals(self):
        self.assert_one_end(Bed(plain.grid_set(3, 3), (0, 0), (0, 0)), GRID_RUN, ())
        self.assert_one_end(whole_corner(), (), ())
        self.assert_one_end(plain.seeded(plain.chain_set(1)), (), ())

    def test_walls_against_the_rivals(self):
        self.assert_one_end(walled_grid(), GRID_RUN, (
            ((1, 1), "rival", GRID_WITHOUT), ((1, 1), "z", GRID_WITHOUT)))

    def test_walls_place_by_place(self):
        self.assert_one_end(walled_chain(), tuple(((x, 0), ("row", x)) for x in range(1, 5)), (
            ((1, 0), ("rival", 1), ((0, 0),)), ((3, 0), ("rival", 3), ((0, 0), (1, 0), (2, 0)))))

    def test_walls_have_what_comes_round_the_place(self):
        # Of the ring round (1, 1) all can come without (1, 0), along the other way, but for "last" itself.
        bed = Bed(TileSet([
            Tile("s", NONE, NONE, ("e", 2), ("n", 2)), Tile("e", ("e", 2), NONE, ("f", 1), ("up", 1)),
            Tile("n", NONE, ("n", 2), ("m", 2), NONE), Tile("m", ("m", 2), ("up", 1), ("last", 2), NONE),
            Tile("last", ("last", 2), ("down", 1), NONE, NONE), Tile("f", ("f", 1), NONE, NONE, ("down", 1)),
            Tile("rival", NONE, NONE, ("f", 1), ("up", 1))]), (0, 0), "s")
        self.assert_one_end(bed, (
            ((0, 1), "n"), ((1, 0), "e"), ((1, 1), "m"), ((2, 1), "last"), ((2, 0), "f")), (
            ((1, 0), "rival", ((0, 0), (0, 1), (1, 1), (2, 1))),))

    def test_behind_deeds(self):
        bed = walled_chain()
        bed.come((1, 0), ("row", 1))
        self.assert_one_end(bed, tuple(((x, 0), ("row", x)) for x in range(2, 5)), (
            ((3, 0), ("rival", 3), ((0, 0), (1, 0), (2, 0))),))
        bed.slip((7, 7), "stone")
        self.assert_one_end(bed, tuple(((x, 0), ("row", x)) for x in range(2, 5)), (
            ((3, 0), ("rival", 3), ((0, 0), (1, 0), (2, 0), (7, 7))),))
        bed.slip((3, 0), "stone")
        self.assert_one_end(bed, (((2, 0), ("row", 2)),), ())

    def test_with_a_tile_beyond_the_rival_can_come(self):
        bed = walled_chain()
        bed.slip((4, 0), ("row", 4))
        paper = self.assert_parts(bed)
        self.assertEqual(paper.one[-1][0], (3, 0))
        bed = walled_grid()
        bed.slip((1, 2), (1, 2))
        self.assert_one_end(bed, tuple(pair for pair in GRID_RUN if pair[0] != (1, 2)), (
            ((1, 1), "rival", tuple(sorted(GRID_WITHOUT + ((1, 2),)))),
            ((1, 1), "z", tuple(sorted(GRID_WITHOUT + ((1, 2),))))))
        bed.slip((2, 1), (2, 1))
        self.assert_parts(bed)

    def test_rivals_that_can_come(self):
        self.assert_parts(corner_bed())
        self.assert_parts(rival_bed())
        self.assert_parts(open_grid())

    def test_a_rival_may_be_the_later_one_in_order(self):
        for name in ("0", "zz"):
            bed = Bed(TileSet([*plain.chain_set(3).tiles, Tile(name, (("chain", 2), 2), NONE, NONE, NONE)]),
                      (0, 0), ("row", 0))
            paper = self.assert_parts(bed)
            self.assertEqual({paper.one[-1], paper.two[-1]}, {((2, 0), ("row", 2)), ((2, 0), name)})

    def test_errors_come_first(self):
        for most in NO_NUMBERS:
            self.assert_error(BadNumber, ["most", most], ends_of, corner_bed(), most)
            self.assert_error(BadNumber, ["most", most], ends_of, endless_bed(), most)
        for most in (1, 2, 3):
            self.assert_error(TooMany, ["tiles", most + 1, most], ends_of, corner_bed(), most)
        self.assert_error(TooMany, ["tiles", 2, 0], ends_of, walled_grid(), 0)
        self.assert_error(TooMany, ["tiles", 9, 8], ends_of, walled_grid(), 8)
        self.assert_error(TooMany, ["tiles", 41, 40], ends_of, endless_bed(), 40)
        self.assertIsInstance(ends_of(walled_grid(), 9), OneEnd)
        self.assertIsInstance(ends_of(most=4, bed=corner_bed()), Parting)
        self.assertIsInstance(ends_of(whole_corner(), 0), OneEnd)


class AllRunsTest(TilesTest):
    """[14], and [12] on small beds, all of whose runs are followed."""

    def test_one_end_or_a_parting(self):
        counts = {OneEnd: 0, Parting: 0, "walls": 0}
        for bed, told, lying in plain.random_beds(700, 12, 51):
            paper = ends_of(bed, 12)
            run = plain.first_run(told, lying)
            counts[paper.__class__] += 1
            if plain.has_one_end(told, lying, plain.behind(told, lying, run)):
                self.assertIsInstance(paper, OneEnd)
                self.assert_same(paper.comings, run)
                self.assert_same(paper.walls, plain.walls(told, lying, run))
                self.assertIs(is_one_end(bed, paper), True)
                counts["walls"] += len(paper.walls)
            else:
                self.assertIsInstance(paper, Parting)
                self.assertTrue(plain.is_parting(told, lying, paper.one, paper.two))
                self.assertIs(is_parting(bed, paper), True)
                # No paper with the very walls that are told for one end can be right.
                walls = plain.walls(told, lying, run)
                self.assertIs(is_one_end(bed, OneEnd(run, walls)), False)
        self.assertTrue(all(many > 20 for many in counts.values()), counts)


if __name__ == "__main__":
    unittest.main()
