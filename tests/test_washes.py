"""[50] and [51]: which cells are kept, and what a wash leaves."""

import random
import unittest

import plain_blocks
import plain_healing as plain
import plain_sweeps
from helping import TilesTest
from plain_sweeps import COUNTER, EATER, made
from test_times import whole_bed
from tilesregrow.blocks import Picture, bed_of, label_at, labels_of
from tilesregrow.ends import settle
from tilesregrow.growth import grow_on
from tilesregrow.healing import kept_cells, rounds_left, wash


def lay_block(bed, column, row, label, shift=(0, 0)):
    """All tiles of a label, in the place of what lies there."""
    for x in (0, 1):
        for y in (0, 1):
            lay(bed, (2 * column + x + shift[0], 2 * row + y + shift[1]), (label, x, y))


def lay(bed, place, name):
    if place != bed.seed_place:
        bed.cut([place])
        bed.slip(place, name)


def spoiled(rng, sweeps, bed, rows):
    """Some deeds of all kinds, also wrong ones."""
    cells = plain.making(rows)
    labels = labels_of(sweeps)
    for _ in range(rng.randrange(1, 6)):
        column, row = rng.choice(cells)
        deed = rng.randrange(8)
        if deed == 0:
            lay(bed, (2 * column + rng.randrange(2), 2 * row + rng.randrange(2)), rng.choice(bed.tile_set.names()))
        elif deed == 1:
            lay_block(bed, column, row, rng.choice(labels))
        elif deed == 2:
            lay_block(bed, column, row, rows[row][column], rng.choice(((1, 0), (0, 1), (-1, 0), (0, -1))))
        elif deed == 3:
            lay_block(bed, column + rng.randrange(-3, 4), row + rng.randrange(-3, 4), rng.choice(labels))
        elif deed == 4:
            for place in rng.sample(plain.block(column, row), rng.randrange(1, 5)):
                bed.cut([place] if place != bed.seed_place else [])
        elif deed == 5:
            lay_block(bed, column, row, rows[row][column])
        elif deed == 6:
            grow_on(bed, rng.randrange(20))
        else:
            bed.cut([place for place in bed.places() if place != bed.seed_place and rng.random() < 0.05])


class KeptTest(TilesTest):
    def test_by_hand(self):
        sweeps = made(EATER)
        bed = bed_of(sweeps)
        self.assert_same(kept_cells(sweeps, bed), ())
        settle(bed, 10 ** 6)
        row = [(0, 0), (1, 0), (2, 0)]
        self.assert_same(kept_cells(sweeps, bed)[:9], (*row, (2, 1), (1, 1), (0, 1), (0, 2), (1, 2), (2, 2)))
        self.assert_same(len(kept_cells(bed=bed, sweeps=sweeps)), 24)
        for place, kept in (((2, 3), (*row, (2, 1))), ((5, 2), tuple(row)), ((5, 0), ((0, 0), (1, 0))),
                            ((1, 1), ()), ((0, 5), (*row, (2, 1), (1, 1), (0, 1)))):
            torn = bed.twin()
            torn.cut([place])
            self.assert_same(kept_cells(sweeps, torn), kept)

    def test_an_extra_letter(self):
        first, begin, steps, turns = COUNTER
        machine = (("1", "1"), begin, {**steps, **{("l", "end", digit): ("end", digit) for digit in "01"}},
                   {**turns, ("r", "add"): ("end", "1"), ("l", "end"): None})
        self.assert_same(kept_cells(made(machine), whole_bed(made(machine))), (
            (0, 0), (1, 0), (1, 1), (0, 1), (0, 2), (1, 2), (2, 2), (2, 3), (1, 3), (0, 3)))

    def test_random_beds(self):
        rng = random.Random(61)
        for machine in plain.some_machines(25, seed=61):
            sweeps = made(machine)
            rows = plain_blocks.picture(machine, 99)
            self.assert_same(kept_cells(sweeps, whole_bed(sweeps)), tuple(plain.making(rows)))
            for _ in range(8):
                bed = rng.choice((bed_of, whole_bed))(sweeps)
                spoiled(rng, sweeps, bed, rows)
                pairs = bed.pairs()
                self.assert_same(kept_cells(sweeps, bed), plain.kept(rows, dict(pairs)))
                self.assertEqual(bed.pairs(), pairs)

    def test_a_whole_row_without_the_rows_below(self):
        sweeps = made(EATER)
        bed = whole_bed(sweeps)
        bed.cut([(x, 5) for x in range(6)])
        self.assertEqual(label_at(bed, 1, 6), ("step", "r", "go", "x"))
        self.assert_same(kept_cells(sweeps, bed), tuple(plain.making(plain_blocks.picture(EATER, 99)))[:6])


class WashTest(TilesTest):
    def assert_washed(self, sweeps, rows, bed, due):
        """The wash takes what the document tells; what stays is right, a second wash takes nothing."""
        before = dict(bed.pairs())
        kept = kept_cells(sweeps, bed)
        told = plain.gone(rows, before)
        self.assert_same(wash(sweeps, bed), told)
        self.assertEqual(dict(bed.pairs()), {place: before[place] for place in before if place not in told})
        self.assertTrue(all(due.get(place) == name for place, name in bed.pairs()))
        self.assert_same(kept_cells(sweeps, bed), kept)
        self.assert_same(wash(sweeps, bed), ())

    def test_by_hand(self):
        sweeps = made(EATER)
        picture = Picture(sweeps, 99)
        bed = bed_of(sweeps)
        self.assert_same(wash(sweeps, bed), ())
        self.assert_same(bed.places(), ((0, 0),))
        for place in ((1, 1), (1, 0), (2, 0), (5, 15)):
            bed.slip(place, picture.due(place))
        bed.slip((0, 1), (("first", 1), 0, 1))
        # The tiles of the due label of the cell that is made next stay, though they are not all there.
        self.assert_same(wash(bed=bed, sweeps=sweeps), ((0, 1), (2, 0), (5, 15)))
        self.assert_same(bed.places(), ((0, 0), (1, 0), (1, 1)))
        bed.slip((0, 1), picture.due((0, 1)))
        bed.slip((2, 1), picture.due((2, 1)))
        bed.slip((3, 1), (("first", 0), 1, 1))
        bed.slip((4, 1), picture.due((4, 1)))
        self.assert_same(wash(sweeps, bed), ((3, 1), (4, 1)))

    def test_a_whole_bed(self):
        sweeps = made(EATER)
        bed = whole_bed(sweeps)
        self.assert_same(wash(sweeps, bed), ())
        pairs = bed.pairs()
        for place in ((9, 9), (-1, 0), (2, 16), (0, -1)):
            bed.slip(place, (("first", 1), 0, 0))
        self.assert_same(wash(sweeps, bed), ((-1, 0), (0, -1), (2, 16), (9, 9)))
        self.assertEqual(bed.pairs(), pairs)

    def test_whole_wrong_blocks_whose_bonds_hold(self):
        # Letters are handed on, so that the rows behind a hole are what another row 0 would have brought.
        steps = {(*key, letter): (key[1], letter) for key in (("l", "s"), ("r", "t"), ("l", "u")) for letter in "ab"}
        turns = {("l", "s"): ("t", None), ("r", "t"): ("u", None), ("l", "u"): None}
        machines = [((*first, "a"), "s", steps, turns) for first in ("aa", "ab")]
        # Both letters are in the set, though row 0 has one of them alone.
        steps["l", "u", "a"] = "u", "b"
        own, other = [whole_bed(made(machine)) for machine in machines]
        self.assertEqual(own.tile_set.names(), other.tile_set.names())
        rows = plain_blocks.picture(machines[0], 99)
        due = dict(own.pairs())
        bed = own.twin()
        bed.cut([place for place in bed.places() if place[1] >= 2])
        for place, name in other.pairs():
            if place[1] >= 4:
                bed.slip(place, name)
        for row in (2, 3):
            for column in range(3):
                self.assertIsNotNone(label_at(bed, column, row))
        self.assertNotEqual(dict(bed.pairs()), {**dict(bed.pairs()), **{p: due[p] for p in bed.places()}})
        self.assert_same(kept_cells(made(machines[0]), bed), ((0, 0), (1, 0), (2, 0)))
        self.assert_washed(made(machines[0]), rows, bed, due)
        self.assert_same(bed.places(), tuple(place for place in sorted(due) if place[1] < 2))
        settle(bed, 99)
        self.assertEqual(dict(bed.pairs()), due)

    def test_random_beds(self):
        rng = random.Random(62)
        for machine in plain.some_machines(25, seed=62):
            sweeps = made(machine)
            picture = Picture(sweeps, 99)
            rows = plain_blocks.picture(machine, 99)
            due = plain_blocks.tiles(rows)
            for _ in range(8):
                bed = rng.choice((bed_of, whole_bed))(sweeps)
                spoiled(rng, sweeps, bed, rows)
                self.assert_washed(sweeps, rows, bed, due)
                self.assert_same(picture.strange(bed), ())
                if rng.random() < 0.5:
                    bed.cut([place for place in bed.places() if place != (0, 0) and rng.random() < 0.2])
                    self.assert_same(picture.strange(bed), ())
                left = rounds_left(picture, bed)
                self.assertEqual(bool(left), bool(picture.lacking(bed)))
                settle(bed, picture.many)
                self.assertEqual(dict(bed.pairs()), due)

    def test_sweeps_without_an_end(self):
        rng = random.Random(63)
        machines = [COUNTER] + [machine for machine in plain_sweeps.random_machines(40, seed=63, ends=0)
                                if len(plain_blocks.picture(machine, 9)[-1]) < 9]
        for machine in machines:
            sweeps = made(machine)
            rows = plain_blocks.picture(machine, 60)
            due = plain_blocks.tiles(rows)
            bed = bed_of(sweeps)
            for _ in range(5):
                grow_on(bed, rng.randrange(60))
                spoiled(rng, sweeps, bed, rows[:6])
                self.assertEqual(kept_cells(sweeps, bed), plain.kept(rows, dict(bed.pairs())))
                self.assert_washed(sweeps, rows, bed, due)
                self.assertNotEqual(bed.may_come(), ())


if __name__ == "__main__":
    unittest.main()
