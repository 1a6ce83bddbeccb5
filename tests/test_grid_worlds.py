"""[71] and [72]: worlds of grids with valves."""

import random
import unittest

import plain_valves
from helping import NO_NUMBERS, NO_PLACES, TilesTest
from plain_valves import XOR, made
from plain_worlds import PlainGridWorld
from test_slips import sticking
from test_valves import NO_KS
from tilesregrow.beds import Bed
from tilesregrow.errors import BadName, BadNumber, BadPlace, Loose, NoName, Taken
from tilesregrow.valves import Valves, right_tiles, turning_run
from tilesregrow.worlds import GridWorld


def whole_world(grid, k):
    world = GridWorld(made(grid), k)
    world.grow(10 ** 6)
    return world


def random_slip(rng, world, plain, cells):
    """A slip in one of some cells that can be done, or None."""
    places = plain_valves.field(plain.k, *rng.choice(cells))
    for place in rng.sample(places, len(places)):
        name = sticking(rng, world.bed, place) if world.bed.at(place) is None else None
        if name is not None:
            return ("slip", place, name)
    return None


def random_deed(rng, world, plain, cells):
    """A deed that can be done; slips only in the told cells."""
    word = rng.choice(("come", "slip", "slip", "cut", "wash", "grow", "rounds"))
    if word == "come":
        pairs = world.bed.may_come()
        return (word, *rng.choice(pairs)) if pairs else ("grow", 0)
    if word == "slip":
        return random_slip(rng, world, plain, cells) if cells else ("rounds", 2)
    if word == "cut":
        field = plain_valves.field(plain.k, *rng.choice(plain.cells))
        part = rng.choice((0.05, 0.5, 1))
        return (word, [place for place in field if rng.random() < part])
    if word == "wash":
        return (word,) if rng.random() < 0.4 else ("rounds", 1)
    return (word, rng.choice((rng.randrange(10), rng.randrange(100))))


class GridWorldTest(TilesTest):
    def assert_world(self, world, plain):
        self.assertEqual(world.bed.pairs(), plain.bed.pairs())
        self.assert_same(world.wrong(), plain.wrong())
        self.assert_same(world.lacking(), plain.lacking())
        self.assert_same(world.rows(), plain.rows())
        self.assert_same(world.is_whole(), not plain.wrong() and not plain.lacking())
        self.assertEqual(world.slips, plain.slips)
        self.assert_same(world.bears(), all(many < plain.k for many in plain.slips.values()))

    def test_attributes(self):
        grid = made(XOR)
        world = GridWorld(k=2, grid=grid)
        self.assertIsInstance(world.valves, Valves)
        self.assertIs(world.valves.grid, grid)
        self.assert_same((world.valves.k, world.slips), (2, {}))
        self.assertIsInstance(world.bed, Bed)
        self.assertIs(world.bed.tile_set, world.valves.tile_set)
        self.assert_same((world.bed.seed_place, world.bed.seed_name), ((-1, -1), ("corner",)))
        self.assert_same(world.bed.places(), tuple(sorted(
            [(-1, -1)] + [(-1, y) for y in range(16)] + [(x, -1) for x in range(16)])))
        self.assertEqual(dict(world.bed.pairs()),
                         {place: name for place, name in right_tiles(world.valves).items() if -1 in place})

    def test_numbers_that_are_none(self):
        for k in NO_KS:
            self.assert_error(BadNumber, ["k", k], GridWorld, made(XOR), k)
        world = GridWorld(made(XOR), 1)
        pairs = world.bed.pairs()
        for many in NO_NUMBERS:
            self.assert_error(BadNumber, ["many", many], world.grow, many)
            self.assert_error(BadNumber, ["many", many], world.rounds, many)
        self.assert_same((world.grow(0), world.rounds(0)), (0, 0))
        self.assertEqual(world.bed.pairs(), pairs)

    def test_by_hand(self):
        world = GridWorld(made(XOR), 1)
        self.assert_same(world.rows(), ((None, None), (None, None)))
        self.assert_same((world.wrong(), len(world.lacking()), world.is_whole(), world.bears()), ((), 52, False, True))
        self.assert_same(world.rounds(1), 1)
        self.assert_same(world.bed.at((0, 0)), ("block", 1, 0, 0, 0))
        self.assert_same((world.grow(5), world.grow(10 ** 9), world.rounds(9)), (5, 46, 0))
        self.assert_same(world.rows(), (((1, 0), (0, 1)), ((0, 1), (1, 1))))
        self.assert_same((world.wrong(), world.lacking(), world.is_whole()), ((), (), True))
        self.assert_same(world.cut([(4, 0), (4, 0), (6, 0)]), 1)
        self.assert_same(world.rows(), (((1, 0), None), ((0, 1), (1, 1))))
        self.assertIsNone(world.slip((4, 0), ("block", 0, 0, 0, 0)))
        self.assert_same((world.slips, world.bears()), ({(1, 0): 1}, False))
        self.assert_same((world.wrong(), world.lacking(), world.is_whole()), (((4, 0),), ((4, 0),), False))
        self.assert_same(len(world.wash()), 13)
        self.assert_same((world.slips, world.bears(), len(world.lacking())), ({}, True, 13))
        self.assertIsNone(world.come((4, 0), ("block", 0, 1, 0, 0)))
        self.assert_same((world.grow(10 ** 6), world.is_whole()), (12, True))

    def test_slips_are_counted_by_cell_in_new_dicts(self):
        world = whole_world(XOR, 2)
        dicts = [world.slips]
        for number, (cell, place, name) in enumerate((
                ((0, 0), (0, 0), ("block", 1, 1, 0, 0)), ((1, 0), (8, 0), ("block", 0, 0, 0, 0)),
                ((0, 0), (2, 0), ("block", 1, 0, 2, 0)), ((1, 1), (15, 8), ("block", 1, 1, 15 - 8, 0)))):
            self.assertEqual(world.cut([place]), 1)
            self.assertIs(world.slips, dicts[-1])
            world.slip(name=name, place=place)
            self.assertFalse(any(world.slips is other for other in dicts))
            dicts.append(world.slips)
        self.assertEqual(dicts, [{}, {(0, 0): 1}, {(0, 0): 1, (1, 0): 1}, {(0, 0): 2, (1, 0): 1},
                                 {(0, 0): 2, (1, 0): 1, (1, 1): 1}])
        self.assert_same(world.bears(), False)
        world.wash()
        self.assertEqual((world.slips, dicts[-1]), ({}, {(0, 0): 2, (1, 0): 1, (1, 1): 1}))
        world.cut([(0, 0)])
        world.slip((0, 0), ("block", 1, 0, 0, 0))
        self.assertEqual((world.slips, world.bears()), ({(0, 0): 1}, True))

    def test_bears_at_k_slips_in_one_cell_and_fewer_in_many(self):
        rng = random.Random(181)
        for k in (1, 2, 3):
            world, plain = whole_world(XOR, k), PlainGridWorld(XOR, k)
            for cell in plain.cells:
                world.cut(plain_valves.field(k, *cell)[:2 * k])
            for cell in plain.cells:
                for _ in range(k - 1):
                    world.slip(*random_slip(rng, world, plain, [cell])[1:])
                self.assert_same((world.slips.get(cell, 0), world.bears()), (k - 1, True))
            world.slip(*random_slip(rng, world, plain, [(1, 0)])[1:])
            self.assert_same((world.slips[1, 0], world.bears()), (k, False))

    def test_errors_of_slips(self):
        world = whole_world(XOR, 1)
        world.cut([(2, 2), (4, 0)])
        before = (world.bed.pairs(), world.slips)
        good = ("block", 0, 0, 0, 0)
        for place in (*NO_PLACES, (-1, -1), (-1, 0), (0, -1), (8, 0), (0, 8), (-5, 3), (100, 100)):
            for name in (good, "nobody", ("corner",)):
                self.assert_error(BadPlace, [place], world.slip, place, name)
        for place in ((4, 0), (0, 0)):
            for name in ("nobody", None, ("block", 5, 5, 0, 0), ("block", 0, 0, 2, 0)[:4], ("west", 99), 7):
                self.assert_error(NoName, [name], world.slip, place, name)
            for name in (("corner",), ("west", 0), ("south", 3)):
                self.assert_error(BadName, [name], world.slip, place, name)
        # Also a tile that has no bond there.
        for name in (good, ("block", 1, 0, 0, 0), ("block", 1, 1, 2, 2)):
            self.assert_error(Taken, [(0, 0)], world.slip, (0, 0), name)
        for place, name in (((4, 0), ("block", 1, 0, 0, 0)), ((2, 2), ("block", 1, 1, 2, 2)), ((2, 0), good),
                            ((7, 7), ("block", 1, 1, 3, 2))):
            self.assert_error(Loose, [place, 0], world.slip, place, name)
        self.assertEqual((world.bed.pairs(), world.slips), before)
        self.assertIs(world.slips, before[1])

    def test_slips_beside_the_border_and_at_empty_places(self):
        world = GridWorld(made(XOR), 1)
        # The border holds a state beside the first block; nothing holds at the second place.
        world.slip((0, 0), ("block", 1, 1, 0, 0))
        self.assert_error(Loose, [(0, 1), 0], world.slip, (0, 1), ("block", 1, 0, 0, 1))
        self.assertEqual(world.slips, {(0, 0): 1})
        self.assert_error(Loose, [(3, 3), 0], world.slip, (3, 3), ("block", 1, 0, 3, 2))

    def test_errors_of_comings_and_cuts(self):
        world = whole_world(XOR, 1)
        world.cut([(0, 0)])
        pairs = world.bed.pairs()
        for place in NO_PLACES:
            self.assert_error(BadPlace, [place], world.come, place, "nobody")
        self.assert_error(NoName, ["nobody"], world.come, (1, 0), "nobody")
        self.assert_error(Taken, [(1, 0)], world.come, (1, 0), ("block", 1, 0, 1, 0))
        self.assert_error(Taken, [(-1, 0)], world.come, (-1, 0), ("west", 0))
        self.assert_error(Loose, [(50, 50), 0], world.come, (50, 50), ("west", 0))
        self.assert_error(Loose, [(0, 0), 1], world.come, (0, 0), ("block", 1, 1, 0, 0))
        for place in (*NO_PLACES, (-1, -1), (-1, 0), (0, -1), (8, 0), (0, 8), (7, -1), (-1, 7)):
            self.assert_error(BadPlace, [place], world.cut, [place])
            self.assert_error(BadPlace, [place], world.cut, ((1, 0), (1, 1), place, None))
        self.assertEqual(world.bed.pairs(), pairs)
        self.assert_same((world.cut(()), world.cut(places=[(7, 7), (0, 0), (6, 0)])), (0, 0))

    def test_rows_of_deeds(self):
        rng = random.Random(182)
        for k, many in ((1, 15), (2, 8), (3, 2)):
            for grid in [XOR, *plain_valves.random_grids(many, 183 + k, wide=2, high=2)]:
                world, plain = GridWorld(made(grid), k), PlainGridWorld(grid, k)
                self.assert_world(world, plain)
                for _ in range(14):
                    deed = random_deed(rng, world, plain, plain.cells)
                    if deed is not None:
                        self.assert_same(getattr(world, deed[0])(*deed[1:]), plain.do(*deed))
                        self.assert_world(world, plain)


class FactsTest(TilesTest):
    def test_deeds_that_the_grid_bears(self):
        rng = random.Random(191)
        for k, many in ((1, 6), (2, 20), (3, 4)):
            for grid in [XOR, *plain_valves.random_grids(many, 192 + k, wide=2, high=2)]:
                world, plain = GridWorld(made(grid), k), PlainGridWorld(grid, k)
                own = plain_valves.cells(*grid)
                for _ in range(25):
                    cells = [cell for cell in plain.cells if world.slips.get(cell, 0) < k - 1]
                    deed = random_deed(rng, world, plain, cells)
                    if deed is not None:
                        getattr(world, deed[0])(*deed[1:])
                        self.assert_same(world.bears(), True)
                        self.assertTrue(all(pair in (None, own[row][column]) for row, pairs in enumerate(world.rows())
                                            for column, pair in enumerate(pairs)))
                world.grow(10 ** 6)
                world.wash()
                self.assert_same(world.wrong(), ())
                self.assertEqual(bool(world.lacking()), bool(world.bed.may_come()))
                world.grow(10 ** 6)
                self.assert_same((world.is_whole(), world.rows()), (True, own))

    def test_k_slips_turn_a_cell(self):
        for k in (1, 2, 3):
            for column, row in ((0, 0), (1, 0), (1, 1)):
                own = plain_valves.cells(*XOR)[row][column]
                for pair in XOR[2]:
                    if (pair[0] == own[0]) != (pair[1] == own[1]):
                        world = whole_world(XOR, k)
                        world.cut(plain_valves.field(k, column, row))
                        for word, place, name in turning_run(world.valves, column, row, pair):
                            getattr(world, word)(place, name)
                        self.assert_same((world.rows()[row][column], world.bears(), world.slips),
                                         (pair, False, {(column, row): k}))
                        world.wash()
                        self.assert_same(world.rows()[row][column], pair)
                        self.assertEqual(len(world.wrong()), len(plain_valves.places(k)))


if __name__ == "__main__":
    unittest.main()
