"""[45] and [46]: in which rounds beds heal."""

import random
import unittest

import plain_blocks
import plain_healing as plain
from helping import TilesTest
from plain_sweeps import EATER, made
from tilesregrow.blocks import Picture, bed_of
from tilesregrow.ends import rounds_of, settle
from tilesregrow.errors import NotKept
from tilesregrow.healing import rounds_left, times

# Two rows of two cells.
SMALL = (("a", "a"), "s", {("l", "s", "a"): ("s", "a")}, {("l", "s"): None})


def whole_bed(sweeps):
    bed = bed_of(sweeps)
    settle(bed, 10 ** 6)
    return bed


class TimesTest(TilesTest):
    def assert_times(self, machine, picture, bed):
        """The times are those of the rules, and of rounds that are brought one by one; the bed stays as it is."""
        rows = plain_blocks.picture(machine, 99)
        lying = bed.pairs()
        found = times(picture, bed)
        self.assert_same(found, plain.times(machine, rows, dict(lying)))
        self.assertEqual(dict(found), plain.rounds_one_by_one(bed))
        self.assertEqual(tuple(place for place, _ in found), picture.lacking(bed))
        left = rounds_left(picture, bed)
        self.assert_same(left, max([time for _, time in found], default=0))
        self.assert_same(left, len(rounds_of(bed, picture.many)))
        self.assertEqual(bed.pairs(), lying)
        return left

    def test_by_hand_from_the_seed(self):
        picture, bed = Picture(made(SMALL), 9), bed_of(made(SMALL))
        self.assert_same(times(picture, bed), (
            ((0, 1), 1), ((0, 2), 8), ((0, 3), 9), ((1, 0), 1), ((1, 1), 2), ((1, 2), 7), ((1, 3), 8),
            ((2, 0), 2), ((2, 1), 3), ((2, 2), 6), ((2, 3), 7), ((3, 0), 3), ((3, 1), 4), ((3, 2), 5), ((3, 3), 6)))
        self.assert_same(rounds_left(bed=bed, picture=picture), 9)

    def test_by_hand_behind_holes(self):
        picture, bed = Picture(made(SMALL), 9), whole_bed(made(SMALL))
        for hole, told in (
                ([], ()),
                ([(1, 2)], (((1, 2), 1),)),
                ([(2, 2), (1, 2)], (((1, 2), 1), ((2, 2), 1))),
                # The last cell is entered from both sides alone.
                ([(0, 2), (0, 3), (1, 2), (1, 3)], (((0, 2), 2), ((0, 3), 3), ((1, 2), 1), ((1, 3), 2))),
                # What is below comes late, what is behind lies.
                ([(0, 2), (0, 3), (1, 2), (1, 3), (1, 1), (1, 0), (0, 1)],
                 (((0, 1), 1), ((0, 2), 4), ((0, 3), 5), ((1, 0), 1), ((1, 1), 2), ((1, 2), 3), ((1, 3), 4)))):
            torn = bed.twin()
            torn.cut(hole)
            self.assert_same(times(bed=torn, picture=picture), told)
            self.assert_same(rounds_left(picture, torn), max([time for _, time in told], default=0))

    def test_random_holes(self):
        rng = random.Random(41)
        for machine in plain.some_machines(20, seed=41):
            sweeps = made(machine)
            picture, bed = Picture(sweeps, 99), whole_bed(sweeps)
            self.assertEqual(self.assert_times(machine, picture, bed), 0)
            for hole in plain.holes(rng, bed.places(), bed.seed_place):
                torn = bed.twin()
                torn.cut(hole)
                self.assert_times(machine, picture, torn)

    def test_beds_on_their_way(self):
        rng = random.Random(42)
        for machine in plain.some_machines(10, seed=42):
            sweeps = made(machine)
            picture, bed = Picture(sweeps, 99), bed_of(sweeps)
            while bed.may_come():
                for pair in rng.sample(bed.may_come(), rng.randrange(len(bed.may_come()) + 1)):
                    bed.come(*pair)
                if rng.random() < 0.1:
                    self.assert_times(machine, picture, bed)

    def test_something_strange(self):
        sweeps = made(EATER)
        picture, bed = Picture(sweeps, 99), bed_of(sweeps)
        names = bed.tile_set.names()
        for places, least in (([(9, 9)], (9, 9)), ([(9, 3), (4, 20), (4, 9)], (4, 9)), ([(0, 1)], (0, 1)),
                              ([(-1, 30), (0, 1)], (-1, 30)), ([(0, 5), (-7, -7), (-7, 0)], (-7, -7))):
            wrong = bed.twin()
            for place in places:
                wrong.slip(place, names[-1])
            lying = wrong.pairs()
            self.assert_error(NotKept, ["right", least], times, picture, wrong)
            self.assert_error(NotKept, ["right", least], rounds_left, picture, wrong)
            self.assertEqual(wrong.pairs(), lying)
        # A right tile that slipped is not strange.
        bed.slip((5, 15), picture.due((5, 15)))
        self.assert_times(EATER, picture, bed)

    def test_a_whole_bed_with_something_strange(self):
        sweeps = made(EATER)
        picture, bed = Picture(sweeps, 99), whole_bed(sweeps)
        self.assert_same((times(picture, bed), rounds_left(picture, bed)), ((), 0))
        bed.slip((3, 16), (("first", 0), 1, 1))
        self.assert_error(NotKept, ["right", (3, 16)], times, picture, bed)


class FactsTest(TilesTest):
    def test_from_the_seed_alone(self):
        for machine in plain.some_machines(40, seed=43):
            picture = Picture(made(machine), 99)
            cells = sum(len(row) for row in picture.labels)
            self.assert_same(rounds_left(picture, bed_of(made(machine))), 2 * cells + len(picture.labels) - 1)

    def test_a_tile_in_each_block(self):
        rng = random.Random(44)
        for machine in plain.some_machines(30, seed=44):
            picture, bed = Picture(made(machine), 99), whole_bed(made(machine))
            for _ in range(3):
                torn = bed.twin()
                spared = {(2 * column + rng.randrange(2), 2 * row + rng.randrange(2))
                          for row, labels in enumerate(picture.labels) for column in range(len(labels))}
                torn.cut([place for place in bed.places() if place not in spared and place != (0, 0)])
                self.assertLessEqual(rounds_left(picture, torn), 2)

    def test_no_tile_comes_in_a_lesser_step(self):
        rng = random.Random(45)
        for machine in plain.some_machines(15, seed=45):
            picture, bed = Picture(made(machine), 99), whole_bed(made(machine))
            for hole in plain.holes(rng, bed.places(), bed.seed_place):
                torn = bed.twin()
                torn.cut(hole)
                told = dict(times(picture, torn))
                step = 0
                while torn.may_come():
                    step += 1
                    pairs = torn.may_come()
                    for place, name in rng.sample(pairs, rng.randrange(1, len(pairs) + 1)):
                        torn.come(place, name)
                        self.assertLessEqual(told[place], step)

    def test_what_lacks_more_is_not_faster(self):
        rng = random.Random(46)
        for machine in plain.some_machines(15, seed=46):
            picture, bed = Picture(made(machine), 99), whole_bed(made(machine))
            for hole in plain.holes(rng, bed.places(), bed.seed_place):
                torn, more = bed.twin(), bed.twin()
                torn.cut(hole)
                more.cut(hole)
                more.cut(rng.choice(plain.holes(rng, bed.places(), bed.seed_place)))
                slow = dict(times(picture, more))
                for place, time in times(picture, torn):
                    self.assertLessEqual(time, slow[place])


if __name__ == "__main__":
    unittest.main()
