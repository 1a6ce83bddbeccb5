"""[57] to [61]: grids, valve blocks and their tiles, whole blocks, washes and runs that turn a block."""

import random
import unittest

import plain_valves as plain
from helping import TilesTest
from plain_valves import XOR, made
from tilesregrow.beds import Bed, TileSet
from tilesregrow.ends import settle
from tilesregrow.errors import BadNumber, BadPlace, BadTile
from tilesregrow.valves import (Grid, Valves, bonds_of, cells_of, local_wash, pair_at, places_of, right_tiles,
                                turning_run)

NO_SYMBOLS = (None, (), [], [1], "ab", 5, True, (None,), (1, None), (1, (2, True)), (True,), (1.5,), ([1],), (1, [2]),
              ({},), {1: 2}, {1}, (b"a",))

NO_RULES = (None, [], (), [((0, 0), (0, 0))], "ab", 5, {0: (0, 0)}, {(0,): (0, 0)}, {(0, 0, 0): (0, 0)}, {"ab": (0, 0)},
            {(0, None): (0, 0)}, {(None, 0): (0, 0)}, {(True, 0): (0, 0)}, {(0, 0): None}, {(0, 0): "ab"},
            {(0, 0): [0, 0]}, {(0, 0): (0,)}, {(0, 0): (0, 0, 0)}, {(0, 0): (0, None)}, {(0, 0): (None, 0)},
            {(0, 0): (0, [0])}, {(0, 0): (False, 0)}, {(0, 0): (0, 0), (1, 0): (0, 1.0)}, {(0, 0): ((0, 0), True)})

NO_KS = (0, 7, -1, 100, True, False, None, 1.0, "1", (1,), [2])


def bed_of_valves(valves):
    return Bed(valves.tile_set, valves.seed_place, valves.seed_name)


def whole_bed(valves):
    bed = bed_of_valves(valves)
    settle(bed, 10 ** 6)
    return bed


class GridTest(TilesTest):
    def test_attributes(self):
        word, states, rule = XOR
        grid = Grid(rule=rule, word=word, states=states)
        self.assert_same((grid.word, grid.states, grid.rule), (word, states, rule))
        self.assertIsNot(grid.rule, rule)
        rule = dict(rule)
        grid = Grid(word, states, rule)
        rule.clear()
        self.assertEqual(grid.rule, XOR[2])

    def test_cells_by_hand(self):
        self.assert_same(cells_of(made(XOR)), (((1, 0), (0, 1)), ((0, 1), (1, 1))))
        self.assert_same(cells_of(grid=Grid(("a",), (5,), {(5, "a"): (6, "b")})), (((5, "a"),),))
        rule = {("s", 1): ("t", 2), ("t", 1): ("s", 3), ("t", 2): ("t", 2), ("t", 3): ("s", 9)}
        self.assert_same(cells_of(Grid((1, 1, 2), ("s",), {**rule, ("s", 2): ("s", 2)})),
                         ((("s", 1), ("t", 1), ("s", 2)),))
        self.assert_same(cells_of(Grid((1,), ("s", "t", "t"), rule)), ((("s", 1),), (("t", 2),), (("t", 2),)))

    def test_random_cells(self):
        for grid in plain.random_grids(100, 81, wide=5, high=5):
            self.assert_same(cells_of(made(grid)), plain.cells(*grid))

    def test_errors(self):
        word, states, rule = (0, 0), (0,), {(0, 0): (0, 0)}
        self.assertIsInstance(Grid(word, states, rule), Grid)
        for wrong in NO_SYMBOLS:
            self.assert_error(BadTile, [wrong], Grid, wrong, states, rule)
            self.assert_error(BadTile, [wrong], Grid, word, wrong, rule)
            self.assert_error(BadTile, [wrong], Grid, wrong, None, [])
            self.assert_error(BadTile, [wrong], Grid, word, wrong, [])
        for wrong in NO_RULES:
            self.assert_error(BadTile, [wrong], Grid, word, states, wrong)
            self.assert_error(BadTile, [wrong], Grid, (7,), (8,), wrong)
        self.assert_error(BadTile, [(8, 7)], Grid, (7,), (8,), {})

    def test_the_first_pair_that_lacks(self):
        word, states, rule = (0, 1, 1), (0, 1), {(0, 0): (1, 0), (1, 1): (2, 0), (2, 1): (0, 5), (1, 0): (3, 1)}
        self.assert_error(BadTile, [(3, 0)], Grid, word, states, rule)
        self.assert_error(BadTile, [(3, 5)], Grid, word, states, {**rule, (3, 0): (3, 0)})
        for lack, told in (((1, 0), (1, 0)), ((2, 1), (2, 1)), ((1, 1), (1, 1)), ((0, 0), (0, 0))):
            self.assert_error(BadTile, [told], Grid, word, states, {key: rule[key] for key in rule if key != lack})
        rng = random.Random(82)
        for word, states, rule in plain.random_grids(60, 83, wide=4, high=4):
            used = [pair for row in plain.cells(word, states, rule) for pair in row]
            lacking = rng.sample(sorted(set(used), key=repr), rng.randrange(1, len(set(used)) + 1))
            first = min(used.index(pair) for pair in lacking)
            less = {pair: rule[pair] for pair in rule if pair not in lacking}
            self.assert_error(BadTile, [used[first]], Grid, word, states, less)


class BlockTest(TilesTest):
    def test_drawings(self):
        for k in plain.DRAWN:
            places, ties = plain.drawn(k)
            self.assert_same(places_of(k), tuple(places))
            self.assert_same(bonds_of(k), tuple(sorted((*pair, strength) for pair, strength in ties.items())))

    def test_all_places_and_bonds(self):
        for k in range(1, 7):
            self.assert_same(places_of(k), tuple(plain.places(k)))
            self.assert_same(bonds_of(k), tuple(sorted((*pair, strength) for pair, strength in plain.bonds(k).items())))
            many = 12 * k * k - 8 * k + 5 + 2 * k * (1 if k % 2 else 2) if k > 1 else 13
            self.assertEqual(len(places_of(k)), many)
            self.assertTrue(all(0 <= x < 4 * k and 0 <= y < 4 * k for x, y in places_of(k)))
        self.assert_same((places_of(k=1), bonds_of(k=1)), (places_of(1), bonds_of(1)))

    def test_numbers_that_are_none(self):
        for k in NO_KS:
            self.assert_error(BadNumber, ["k", k], places_of, k)
            self.assert_error(BadNumber, ["k", k], bonds_of, k)
            self.assert_error(BadNumber, ["k", k], Valves, made(XOR), k)


class TilesOfValvesTest(TilesTest):
    def assert_tiles(self, grid, k):
        valves = Valves(made(grid), k)
        told = plain.tiles(*grid, k)
        self.assertEqual({tile.name: (tile.west, tile.south, tile.east, tile.north) for tile in valves.tile_set.tiles},
                         told)
        self.assertEqual(len(valves.tile_set.tiles), len(told))
        for tile in valves.tile_set.tiles:
            self.assertEqual(repr((tile.west, tile.south, tile.east, tile.north)), repr(told[tile.name]))
        self.assert_same((valves.seed_place, valves.seed_name), ((-1, -1), ("corner",)))

    def test_attributes(self):
        grid = made(XOR)
        valves = Valves(k=2, grid=grid)
        self.assertIs(valves.grid, grid)
        self.assert_same(valves.k, 2)
        self.assertIsInstance(valves.tile_set, TileSet)

    def test_by_hand(self):
        valves = Valves(Grid(("a", "b"), (5,), {(5, "a"): (6, "c"), (6, "b"): (5, "b")}), 1)
        for name, glues in (
                (("corner",), ((None, 0), (None, 0), (("south", 0), 2), (("west", 0), 2))),
                (("west", 0), ((None, 0), (("west", 0), 2), (("state", 5, 0), 1), (("west", 1), 2))),
                (("west", 1), ((None, 0), (("west", 1), 2), (None, 0), (("west", 2), 2))),
                (("west", 3), ((None, 0), (("west", 3), 2), (None, 0), (None, 0))),
                (("south", 0), ((("south", 0), 2), (None, 0), (("south", 1), 2), (("letter", "a", 0), 1))),
                (("south", 4), ((("south", 4), 2), (None, 0), (("south", 5), 2), (("letter", "b", 0), 1))),
                (("south", 6), ((("south", 6), 2), (None, 0), (("south", 7), 2), (None, 0))),
                (("south", 7), ((("south", 7), 2), (None, 0), (None, 0), (None, 0))),
                (("block", 5, "a", 0, 0), ((("state", 5, 0), 1), (("letter", "a", 0), 1), (("east", 5, "a", 0, 0), 2),
                                           (("north", 5, "a", 0, 0), 2))),
                (("block", 5, "a", 2, 2), ((("east", 5, "a", 1, 2), 1), (("north", 5, "a", 2, 1), 1),
                                           (("east", 5, "a", 2, 2), 2), (("north", 5, "a", 2, 2), 2))),
                (("block", 6, "b", 3, 0), ((None, 0), (None, 0), (("state", 5, 0), 1), (("north", 6, "b", 3, 0), 2))),
                (("block", 6, "b", 0, 3), ((None, 0), (None, 0), (("east", 6, "b", 0, 3), 2), (("letter", "b", 0), 1)))):
            tile = valves.tile_set.tile_of(name)
            self.assert_same((tile.west, tile.south, tile.east, tile.north), glues)
        self.assertEqual(len(valves.tile_set.tiles), 1 + 4 + 8 + 2 * 13)

    def test_random_grids(self):
        for k, many in ((1, 25), (2, 8), (3, 2)):
            for grid in plain.random_grids(many, 84 + k):
                self.assert_tiles(grid, k)
        for k in (4, 5, 6):
            self.assert_tiles(plain.random_grids(1, 87 + k, symbols=1)[0], k)


class RightTilesTest(TilesTest):
    def test_random_grids(self):
        for k, many in ((1, 25), (2, 8), (3, 3), (4, 2), (6, 1)):
            for grid in plain.random_grids(many, 90 + k):
                valves = Valves(made(grid), k)
                found = right_tiles(valves=valves)
                self.assertIsInstance(found, dict)
                self.assertEqual(found, plain.right(*grid, k))
                self.assertEqual(sorted(map(repr, found.values())), sorted(map(repr, plain.right(*grid, k).values())))
                self.assertEqual(dict(whole_bed(valves).pairs()), found)

    def test_a_new_one_each_time(self):
        valves = Valves(made(XOR), 1)
        right_tiles(valves).clear()
        self.assertEqual(right_tiles(valves), plain.right(*XOR, 1))


NO_CELLS = ((-1, 0), (0, -1), (2, 0), (0, 2), (-1, -1), (5, 5), (True, 0), (0, False), (None, 0), (0, None), ("0", 0),
            (0, 1.0), ((0,), 0), (0, [0]))


class PairAtTest(TilesTest):
    def test_whole_empty_and_partly_laid_blocks(self):
        rng = random.Random(101)
        for k in (1, 2, 3):
            valves = Valves(made(XOR), k)
            bed = whole_bed(valves)
            for column, row in ((0, 0), (1, 0), (0, 1), (1, 1)):
                own = plain.cells(*XOR)[row][column]
                self.assert_same(pair_at(valves, bed, column, row), own)
                for place in plain.field(k, column, row):
                    torn = bed.twin()
                    went = torn.cut([place])
                    self.assert_same(pair_at(bed=torn, valves=valves, row=row, column=column), None if went else own)
                torn = bed.twin()
                torn.cut(plain.field(k, column, row))
                self.assert_same(pair_at(valves, torn, column, row), None)
                place = rng.choice(plain.field(k, column, row))
                while bed.at(place) is None:
                    place = rng.choice(plain.field(k, column, row))
                torn = bed.twin()
                torn.cut([place])
                torn.slip(place, rng.choice([name for name in valves.tile_set.names() if name != bed.at(place)]))
                self.assert_same(pair_at(valves, torn, column, row), None)

    def test_wrong_pairs_and_tiles_at_empty_places(self):
        for k in (1, 2):
            valves = Valves(made(XOR), k)
            bed = bed_of_valves(valves)
            for pair in XOR[2]:
                bed.cut(plain.field(k, 1, 0))
                for x, y in plain.places(k):
                    self.assert_same(pair_at(valves, bed, 1, 0), None)
                    bed.slip((4 * k + x, y), ("block", *pair, x, y))
                self.assert_same(pair_at(valves, bed, 1, 0), pair)
                for place in plain.field(k, 1, 0):
                    if bed.at(place) is None:
                        bed.slip(place, ("block", 0, 0, 0, 0))
                self.assert_same(pair_at(valves, bed, 1, 0), pair)
                self.assert_same(pair_at(valves, bed, 0, 0), None)

    def test_random_beds(self):
        rng = random.Random(102)
        for grid in plain.random_grids(20, 103):
            valves = Valves(made(grid), 1)
            bed = whole_bed(valves)
            bed.cut([place for place in bed.places() if rng.random() < 0.04 and place != (-1, -1)])
            for row in range(len(grid[1])):
                for column in range(len(grid[0])):
                    self.assert_same(pair_at(valves, bed, column, row),
                                     plain.pair_at(dict(bed.pairs()), grid[2], 1, column, row))

    def test_cells_that_the_grid_does_not_have(self):
        valves = Valves(made(XOR), 1)
        bed = whole_bed(valves)
        for cell in NO_CELLS:
            self.assert_error(BadPlace, [cell], pair_at, valves, bed, *cell)
            self.assert_error(BadPlace, [cell], turning_run, valves, *cell, (0, 0))
            self.assert_error(BadPlace, [cell], turning_run, valves, *cell, None)


class LocalWashTest(TilesTest):
    def test_by_hand(self):
        valves = Valves(made(XOR), 1)
        bed = whole_bed(valves)
        self.assert_same(local_wash(valves, bed), ())
        bed.cut([(4, 0)])
        bed.slip((6, 0), ("block", 1, 1, 0, 0))
        bed.slip((2, 0), ("block", 1, 1, 0, 0))
        bed.slip((9, 9), ("block", 1, 1, 0, 0))
        bed.slip((8, 0), ("corner",))
        self.assert_same(local_wash(bed=bed, valves=valves), tuple(sorted(
            [(4 + x, y) for x, y in plain.places(1) if (x, y) != (0, 0)] + [(6, 0)])))
        self.assertEqual((bed.at((2, 0)), bed.at((9, 9)), bed.at((8, 0))),
                         (("block", 1, 1, 0, 0), ("block", 1, 1, 0, 0), ("corner",)))
        self.assert_same(local_wash(valves, bed), ())

    def test_random_beds(self):
        rng = random.Random(104)
        for k, many in ((1, 30), (2, 8), (3, 3)):
            for grid in plain.random_grids(many, 105 + k):
                valves = Valves(made(grid), k)
                bed = whole_bed(valves)
                bed.cut([place for place in bed.places() if rng.random() < 0.04 / k / k and place != (-1, -1)])
                cells = [(column, row) for column in range(len(grid[0])) for row in range(len(grid[1]))]
                for _ in range(5):
                    place = rng.choice(plain.field(k, *rng.choice(cells)))
                    if bed.at(place) is None:
                        bed.slip(place, rng.choice(valves.tile_set.names()))
                if rng.random() < 0.5:
                    # A whole wrong block stays.
                    column, row = rng.choice(cells)
                    pair = rng.choice(list(grid[2]))
                    bed.cut(plain.field(k, column, row))
                    for x, y in plain.places(k):
                        bed.slip((4 * k * column + x, 4 * k * row + y), ("block", *pair, x, y))
                before = dict(bed.pairs())
                went = tuple(sorted(
                    place for cell in cells if plain.pair_at(before, grid[2], k, *cell) is None
                    for place in plain.field(k, *cell) if place in before))
                self.assert_same(local_wash(valves, bed), went)
                self.assertEqual(dict(bed.pairs()), {place: before[place] for place in before if place not in went})


class TurningTest(TilesTest):
    def assert_turned(self, valves, bed, k, cell, pair):
        """The run can be done where the block is cut out and its input blocks lie; then the pair is this one."""
        deeds = turning_run(valves, *cell, pair)
        self.assertIsInstance(deeds, tuple)
        self.assertEqual([deed[0] for deed in deeds].count("slip"), k)
        self.assertEqual(sorted(place for _, place, _ in deeds), sorted(
            (4 * k * cell[0] + x, 4 * k * cell[1] + y) for x, y in plain.places(k)))
        for word, place, name in deeds:
            if word == "slip":
                self.assertGreater(bed.bonds(place, name), 0)
                bed.slip(place, name)
            else:
                self.assertEqual(word, "come")
                bed.come(place, name)
        self.assert_same(pair_at(valves, bed, *cell), pair)

    def test_each_pair_of_each_cell(self):
        rng = random.Random(111)
        for k, many in ((1, 12), (2, 6), (3, 2), (4, 1), (6, 1)):
            for grid in plain.random_grids(many, 112 + k):
                valves = Valves(made(grid), k)
                right = whole_bed(valves)
                for row, pairs in enumerate(plain.cells(*grid)):
                    for column, own in enumerate(pairs):
                        for pair in grid[2]:
                            if (pair[0] == own[0]) == (pair[1] == own[1]):
                                self.assert_error(BadTile, [pair], turning_run, valves, column, row, pair)
                                continue
                            bed = right.twin()
                            bed.cut(plain.field(k, column, row))
                            if rng.random() < 0.5:
                                # Only the input blocks and the border are needed.
                                bed.cut([place for place in bed.places() if place[0] >= 4 * k * (column + 1)
                                         or place[1] >= 4 * k * (row + 1)])
                            self.assert_turned(valves, bed, k, (column, row), pair)

    def test_by_name(self):
        valves = Valves(made(XOR), 2)
        self.assert_same(turning_run(pair=(0, 0), row=0, column=0, valves=valves), turning_run(valves, 0, 0, (0, 0)))

    def test_pairs_that_are_none(self):
        valves = Valves(made(XOR), 2)
        # The pair of the cell, one with neither its state nor its letter, and such as are no pairs of the rule.
        for pair in ((1, 0), (0, 1), (1, 2), (2, 0), None, (), (1,), (1, 0, 0), [1, 1], (True, 1), (1, None), "ab", 5,
                     {1: 1}, ([1], 1), (1, [1]), (False, False), (1.0, 1), (1, 1.0)):
            self.assert_error(BadTile, [pair], turning_run, valves, 0, 0, pair)
        for pair in ((1, 1), (0, 0)):
            self.assertIsInstance(turning_run(valves, 0, 0, pair), tuple)


if __name__ == "__main__":
    unittest.main()
