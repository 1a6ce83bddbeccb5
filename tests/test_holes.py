"""[47] to [49]: holes of cells, inner cells, chains and their weights."""

import itertools
import random
import unittest

import plain_healing as plain
from helping import TilesTest
from plain_sweeps import EATER, made
from test_times import whole_bed
from tilesregrow.blocks import Picture
from tilesregrow.errors import NotKept
from tilesregrow.healing import heaviest, hole_of, is_inner, rounds_left, weight_of
from tilesregrow.shapes import square, tower

# Chains, in rows of both directions: up one column; along a row of "r" and of "l".
CHAINS = (
    ((), 0), (((3, 4),), 3), (((0, 0),), 3), (((-5, -7),), 3), (((10 ** 9, 10 ** 9),), 3),
    (((1, 2), (2, 2)), 5), (((1, 3), (0, 3)), 5), (((1, 2), (1, 3)), 6), (((1, 3), (1, 4)), 6),
    (((1, 2), (2, 2), (3, 2)), 7), (((1, 2), (2, 2), (2, 3), (1, 3), (1, 4), (2, 4)), 3 + 2 + 3 + 2 + 3 + 2),
    (((5, 1), (5, 2), (5, 3), (5, 4)), 12), (((0, -1), (-1, -1), (-1, 0), (0, 0)), 3 + 2 + 3 + 2))

NO_CHAINS = (
    ((2, 2), (1, 2)), ((0, 3), (1, 3)), ((1, 3), (1, 2)), ((1, 2), (1, 2)), ((1, 2), (3, 2)), ((1, 2), (1, 4)),
    ((1, 2), (2, 3)), ((1, 2), (0, 3)), ((1, 2), (2, 2), (1, 2)), ((1, 2), (2, 2), (4, 2)), ((1, 2), (2, 2), (2, 1)),
    ((3, 3), (2, 3), (2, 4), (1, 4)))


class CellsTest(TilesTest):
    def test_holes_by_hand(self):
        for cells, told in (
                ([], ()), ((), ()), ([(0, 0)], ((0, 0), (0, 1), (1, 0), (1, 1))),
                ([(2, 3)], ((4, 6), (4, 7), (5, 6), (5, 7))),
                (((2, 3), (2, 3)), ((4, 6), (4, 7), (5, 6), (5, 7))),
                ([(1, 0), (0, 1), (1, 0)], ((0, 2), (0, 3), (1, 2), (1, 3), (2, 0), (2, 1), (3, 0), (3, 1))),
                ([(-1, -2)], ((-2, -4), (-2, -3), (-1, -4), (-1, -3)))):
            self.assert_same(hole_of(cells), told)
        self.assert_same(hole_of(cells=[(0, 0)]), ((0, 0), (0, 1), (1, 0), (1, 1)))

    def test_random_holes(self):
        rng = random.Random(51)
        for _ in range(50):
            cells = [(rng.randrange(-3, 5), rng.randrange(-3, 5)) for _ in range(rng.randrange(9))]
            before = list(cells)
            self.assert_same(hole_of(cells), tuple(sorted({place for cell in cells for place in plain.block(*cell)})))
            self.assertEqual(cells, before)

    def test_inner_cells_by_hand(self):
        picture = Picture(made(EATER), 99)
        for row in range(-3, 12):
            for column in range(-4, 9):
                self.assert_same(is_inner(picture, column, row), column == 1 and 1 <= row <= 7)
        self.assert_same(is_inner(row=1, picture=picture, column=1), True)

    def test_inner_cells_of_random_machines(self):
        for machine in plain.some_machines(30, seed=52):
            picture = Picture(made(machine), 99)
            for row in range(-2, len(picture.labels) + 2):
                for column in range(-len(picture.labels[-1]) - 1, len(picture.labels[-1]) + 2):
                    inside = 0 <= row < len(picture.labels) and 0 <= column < len(picture.labels[row])
                    self.assert_same(is_inner(picture, column, row),
                                     inside and picture.labels[row][column][0] == "step")


class WeightTest(TilesTest):
    def test_chains(self):
        for chain, weight in CHAINS:
            self.assert_same(weight_of(chain), weight)
        self.assert_same(weight_of(chain=((1, 2), (1, 3))), 6)

    def test_tuples_that_are_no_chains(self):
        for cells in NO_CHAINS:
            self.assert_same(weight_of(cells), None)

    def test_all_small_tuples(self):
        cells = [(column, row) for column in range(-1, 2) for row in range(-1, 2)]
        for many in range(4):
            for chain in itertools.product(cells, repeat=many):
                self.assert_same(weight_of(chain), plain.weight(chain))


class HeaviestTest(TilesTest):
    def assert_heaviest(self, picture, cells):
        before = list(cells)
        weight, chain = heaviest(picture, cells)
        self.assert_same(weight, plain.greatest(cells))
        self.assert_same(plain.weight(chain), weight)
        self.assertIsInstance(chain, tuple)
        self.assertTrue(all(cell in cells for cell in chain))
        self.assertIsInstance(heaviest(picture, cells), tuple)
        self.assertEqual(list(cells), before)
        return weight

    def test_by_hand(self):
        picture = Picture(square(9), 99)
        for cells, weight in (
                ([], 0), ((), 0), ([(3, 3)], 3), ([(3, 3), (3, 3)], 3), ([(3, 3), (2, 3)], 5), ([(2, 3), (3, 3)], 5),
                ([(3, 3), (5, 3)], 3), ([(3, 2), (3, 3)], 6), ([(3, 3), (3, 2), (3, 3)], 6), ([(2, 2), (3, 3)], 3),
                ([(2, 2), (3, 2), (3, 3), (2, 3)], 10), ([(2, 1), (3, 1), (2, 2), (3, 2), (3, 3), (2, 3)], 15),
                ([(6, 2), (2, 2), (3, 2), (6, 3), (6, 4)], 9), ([(5, 1), (4, 1), (3, 1)], 7),
                ([(3, 1), (4, 1), (6, 1), (7, 1)], 5)):
            self.assert_same(self.assert_heaviest(picture, cells), weight)
        self.assert_same(heaviest(picture, []), (0, ()))
        self.assert_same(heaviest(cells=[(3, 3)], picture=picture), (3, ((3, 3),)))
        self.assert_same(heaviest(picture, [(2, 2), (3, 2), (3, 3), (2, 3)]), (10, ((2, 2), (3, 2), (3, 3), (2, 3))))

    def test_random_cells(self):
        rng = random.Random(53)
        picture = Picture(square(8), 99)
        inner = [(column, row) for column in range(1, 7) for row in range(1, 8)]
        for _ in range(200):
            cells = rng.sample(inner, rng.randrange(15))
            cells += rng.sample(cells, rng.randrange(len(cells) + 1))
            rng.shuffle(cells)
            self.assert_heaviest(picture, rng.choice((cells, tuple(cells))))

    def test_cells_that_are_not_inner(self):
        picture = Picture(square(5), 99)
        good = [(1, 1), (2, 2), (3, 3), (1, 4)]
        for wrong in ((0, 0), (2, 0), (0, 1), (4, 1), (0, 2), (4, 2), (-1, 1), (1, -1), (5, 2), (2, 5), (9, 9)):
            for at in range(len(good) + 1):
                cells = good[:at] + [wrong] + good[at:]
                self.assert_error(NotKept, ["inner", wrong], heaviest, picture, cells)
                self.assert_error(NotKept, ["inner", wrong], heaviest, picture, tuple(cells) + ((4, 4), (0, 3)))


class FactsTest(TilesTest):
    def pictures(self):
        machines = [made(machine) for machine in plain.some_machines(15, seed=54)]
        return [Picture(sweeps, 99) for sweeps in [square(6), square(7), tower(12), *machines]]

    def test_blocks_that_lack_wholly(self):
        rng = random.Random(55)
        for picture in self.pictures():
            bed = whole_bed(picture.sweeps)
            inner = [(column, row) for row, labels in enumerate(picture.labels) for column in range(len(labels))
                     if is_inner(picture, column, row)]
            for many in (0, 1, len(inner), *[rng.randrange(len(inner) + 1) for _ in range(4)]):
                cells = rng.sample(inner, min(many, len(inner)))
                weight = self.weight(picture, cells)
                torn = bed.twin()
                torn.cut(hole_of(cells))
                self.assert_same(rounds_left(picture, torn), weight)
                part = bed.twin()
                part.cut([place for place in hole_of(cells) if rng.random() < 0.7])
                self.assertLessEqual(rounds_left(picture, part), weight)

    def weight(self, picture, cells):
        weight, chain = heaviest(picture, cells)
        self.assertEqual(weight_of(chain), weight)
        self.assertTrue(all(cell in cells for cell in chain))
        return weight

    def test_rectangles(self):
        picture = Picture(square(8), 99)
        bed = whole_bed(picture.sweeps)
        for left, low in ((1, 1), (2, 2), (1, 3), (3, 4)):
            for wide in range(1, 7 - left + 1):
                for high in range(1, 8 - low + 1):
                    cells = [(left + x, low + y) for x in range(wide) for y in range(high)]
                    if left + wide <= 7:
                        self.assert_same(heaviest(picture, cells)[0], high * (2 * wide + 1))
                        torn = bed.twin()
                        torn.cut(hole_of(cells))
                        self.assert_same(rounds_left(picture, torn), high * (2 * wide + 1))


if __name__ == "__main__":
    unittest.main()
