"""[36] to [40]: labels, their outcomes, and the tiles of their blocks."""

import unittest

import plain_blocks
import plain_sweeps as plain
from helping import TilesTest
from plain_sweeps import COUNTER, EATER, made
from tilesregrow.beds import NONE, Bed, TileSet
from tilesregrow.blocks import bed_of, labels_of, outcome, tiles_of
from tilesregrow.compiling import sweeps_of
from tilesregrow.programs import Program

EATEN = [("last", "l", "seen", letter) for letter in "abcx"] + [("last", "l", "look", letter) for letter in "abc"]
GONE = [("last", "r", "go", letter) for letter in "abcx"]


def some_machines():
    """Machines of all kinds, and some of programs, which have extra letters."""
    found = [COUNTER, EATER, *plain.random_machines(150, seed=21), *plain.random_machines(30, seed=22, ends=0)]
    for text in ("registers a b\ncolours c d\nat x\ninc a\nadd b a\ndec a\npaint d\nifzero a x\n",
                 "registers a\ncolours c\nadd a a\nend\n"):
        sweeps = sweeps_of(Program(text), [2] * (2 if "b" in text else 1))
        found.append((sweeps.first, sweeps.begin, sweeps.steps, sweeps.turns))
    return found


class LabelsTest(TilesTest):
    def test_by_hand(self):
        firsts = [("first", 0), ("first", 1), ("first", 2)]
        walked = [("l", "look"), ("l", "seen"), ("r", "go")]
        labels = firsts + [(word, *key, letter) for key in walked for word in ("step", "last") for letter in "abcx"]
        labels += [("start", below) for below in EATEN + GONE + [("first", 2)]]
        self.assert_same(labels_of(made(EATER)), tuple(sorted(labels, key=repr)))
        self.assert_same(labels_of(sweeps=made(EATER))[:3], (("first", 0), ("first", 1), ("first", 2)))

    def test_a_machine_with_extra_letters(self):
        labels = labels_of(made(COUNTER))
        self.assert_same([label for label in labels if label[0] == "extra"], [("extra", "add", "1")])
        self.assert_same([label for label in labels if label[0] == "start"], sorted([
            ("start", ("first", 1)), ("start", ("extra", "add", "1")), ("start", ("last", "l", "back", "0")),
            ("start", ("last", "l", "back", "1")), ("start", ("last", "r", "add", "0")),
            ("start", ("last", "r", "keep", "0")), ("start", ("last", "r", "keep", "1"))], key=repr))

    def test_a_machine_that_ends_with_row_1(self):
        sweeps = made(((7, 7), 0, {("l", 0, 7): (0, 8), ("l", 0, 8): (0, 8)}, {("l", 0): None}))
        self.assert_same(labels_of(sweeps), (
            ("first", 0), ("first", 1), ("last", "l", 0, 7), ("last", "l", 0, 8), ("start", ("first", 1)),
            ("step", "l", 0, 7), ("step", "l", 0, 8)))

    def test_items_that_mean_nothing_have_no_labels(self):
        more = (*EATER[:2], {**EATER[2], ("l", "never", "a"): ("never", "z")},
                {**EATER[3], ("l", "never"): ("go", None)})
        self.assert_same(labels_of(made(more)), labels_of(made(EATER)))

    def test_many_columns_are_ordered_by_repr(self):
        sweeps = made((("a",) * 12, *EATER[1:]))
        self.assert_same(labels_of(sweeps)[:5],
                         (("first", 0), ("first", 1), ("first", 10), ("first", 11), ("first", 2)))

    def test_random_machines(self):
        for machine in some_machines():
            self.assert_same(labels_of(made(machine)), plain_blocks.labels(machine))


class OutcomeTest(TilesTest):
    def test_each_kind_by_hand(self):
        sweeps = made(EATER)
        for label, told in (
                (("first", 0), ("r", None, "a")), (("first", 2), ("r", None, "c")),
                (("step", "l", "look", "x"), ("l", "look", "x")), (("step", "l", "look", "b"), ("l", "seen", "x")),
                (("step", "r", "go", "b"), ("r", "go", "b")), (("last", "l", "seen", "a"), ("l", "seen", "a")),
                (("last", "l", "look", "x"), ("l", "look", "x")), (("last", "r", "go", "x"), ("r", "go", "x")),
                (("start", ("first", 2)), ("l", "seen", "x")),
                (("start", ("last", "l", "look", "a")), ("r", "go", "x")),
                (("start", ("last", "l", "seen", "a")), ("r", "go", "a")),
                (("start", ("last", "r", "go", "x")), ("l", "look", "x")),
                (("start", ("last", "r", "go", "b")), ("l", "seen", "x"))):
            self.assert_same(outcome(sweeps, label), told)
            self.assert_same(outcome(label=label, sweeps=sweeps), told)

    def test_extra_letters_by_hand(self):
        sweeps = made(COUNTER)
        for label, told in (
                (("extra", "add", "1"), ("r", None, "1")), (("last", "r", "add", "1"), ("r", "add", "0")),
                (("start", ("extra", "add", "1")), ("l", "back", "1")), (("last", "r", "add", "0"), ("r", "keep", "1")),
                (("start", ("last", "l", "back", "1")), ("r", "add", "0")),
                (("start", ("first", 1)), ("l", "back", "0"))):
            self.assert_same(outcome(sweeps, label), told)

    def test_random_machines(self):
        for machine in some_machines():
            sweeps = made(machine)
            for label in labels_of(sweeps):
                self.assert_same(outcome(sweeps, label), plain_blocks.outcome(machine, label))


class TilesOfLabelsTest(TilesTest):
    def assert_block(self, machine, label, told):
        """The tiles of the label have the told glues and those inside, and no others."""
        tile_set = tiles_of(made(machine))
        inside = [(("inside", label, number), 2) for number in range(4)]
        glues = {(0, 0): [NONE, NONE, inside[0], inside[1]], (1, 0): [inside[0], NONE, NONE, inside[2]],
                 (0, 1): [NONE, inside[1], inside[3], NONE], (1, 1): [inside[3], inside[2], NONE, NONE]}
        for (x, y, side), glue in told.items():
            self.assertEqual(glues[x, y][side], NONE)
            glues[x, y][side] = glue
        for (x, y), sides in glues.items():
            tile = tile_set.tile_of((label, x, y))
            self.assert_same([tile.west, tile.south, tile.east, tile.north], sides)

    def test_cells_of_row_0(self):
        self.assert_block(EATER, ("first", 0), {(1, 0, 2): (("chain", 1), 2), (1, 1, 3): (("letter", "r", "a", 1), 1)})
        self.assert_block(EATER, ("first", 1), {(0, 0, 0): (("chain", 1), 2), (1, 0, 2): (("chain", 2), 2),
                                                (1, 1, 3): (("letter", "r", "b", 0), 1)})
        self.assert_block(EATER, ("first", 2), {(0, 0, 0): (("chain", 2), 2), (1, 1, 3): (("turn", ("first", 2)), 2)})

    def test_steps(self):
        self.assert_block(EATER, ("step", "l", "look", "b"), {
            (1, 0, 2): (("state", "l", "look"), 1), (1, 0, 1): (("letter", "r", "b", 0), 1),
            (0, 0, 0): (("state", "l", "seen"), 1), (0, 1, 3): (("letter", "l", "x", 0), 1)})
        self.assert_block(COUNTER, ("step", "r", "add", "0"), {
            (0, 0, 0): (("state", "r", "add"), 1), (0, 0, 1): (("letter", "l", "0", 0), 1),
            (1, 0, 2): (("state", "r", "keep"), 1), (1, 1, 3): (("letter", "r", "1", 0), 1)})

    def test_last_ones(self):
        ended = ("last", "l", "look", "x")
        self.assert_block(EATER, ended, {
            (1, 0, 2): (("state", "l", "look"), 1), (1, 0, 1): (("letter", "r", "x", 1), 1)})
        label = ("last", "l", "look", "a")
        self.assert_block(EATER, label, {
            (1, 0, 2): (("state", "l", "look"), 1), (1, 0, 1): (("letter", "r", "a", 1), 1),
            (0, 1, 3): (("turn", label), 2)})
        label = ("last", "r", "keep", "1")
        self.assert_block(COUNTER, label, {
            (0, 0, 0): (("state", "r", "keep"), 1), (0, 0, 1): (("letter", "l", "1", 1), 1),
            (1, 1, 3): (("turn", label), 2)})
        label = ("last", "r", "add", "1")
        self.assert_block(COUNTER, label, {
            (0, 0, 0): (("state", "r", "add"), 1), (0, 0, 1): (("letter", "l", "1", 1), 1),
            (1, 0, 2): (("extra", label), 2), (1, 1, 3): (("letter", "r", "0", 0), 1)})
        over = (*COUNTER[:3], {**COUNTER[3], ("r", "keep"): None})
        self.assert_block(over, ("last", "r", "keep", "1"), {
            (0, 0, 0): (("state", "r", "keep"), 1), (0, 0, 1): (("letter", "l", "1", 1), 1)})

    def test_extra_ones(self):
        label = ("extra", "add", "1")
        self.assert_block(COUNTER, label, {
            (0, 0, 0): (("extra", ("last", "r", "add", "1")), 2), (1, 1, 3): (("turn", label), 2)})

    def test_starts(self):
        for below, state, letter in ((("first", 1), "back", "0"), (("extra", "add", "1"), "back", "1"),
                                     (("last", "r", "keep", "0"), "back", "0"),
                                     (("last", "r", "add", "0"), "back", "1")):
            self.assert_block(COUNTER, ("start", below), {
                (1, 0, 1): (("turn", below), 2), (0, 0, 0): (("state", "l", state), 1),
                (0, 1, 3): (("letter", "l", letter, 1), 1)})
        for below, state, letter in ((("last", "l", "back", "0"), "keep", "1"),
                                     (("last", "l", "back", "1"), "add", "0")):
            self.assert_block(COUNTER, ("start", below), {
                (0, 0, 1): (("turn", below), 2), (1, 0, 2): (("state", "r", state), 1),
                (1, 1, 3): (("letter", "r", letter, 1), 1)})

    def test_all_tiles_of_random_machines(self):
        for machine in some_machines():
            tile_set = tiles_of(made(machine))
            for label in plain_blocks.labels(machine):
                for (x, y), sides in plain_blocks.sides(machine, label).items():
                    tile = tile_set.tile_of((label, x, y))
                    self.assert_same([tile.west, tile.south, tile.east, tile.north], sides)


class SetsAndBedsTest(TilesTest):
    def test_the_order_of_a_set(self):
        for machine in some_machines():
            sweeps = made(machine)
            tile_set = tiles_of(sweeps)
            self.assertIsInstance(tile_set, TileSet)
            self.assert_same(len(tile_set.tiles), 4 * len(labels_of(sweeps)))
            self.assert_same([tile.name for tile in tile_set.tiles], [
                (label, x, y) for label in plain_blocks.labels(machine) for x, y in ((0, 0), (1, 0), (0, 1), (1, 1))])

    def test_the_seed_alone(self):
        for machine in some_machines():
            bed = bed_of(sweeps=made(machine))
            self.assertIsInstance(bed, Bed)
            seed = (("first", 0), 0, 0)
            self.assert_same((bed.seed_place, bed.seed_name), ((0, 0), seed))
            self.assert_same(bed.pairs(), (((0, 0), seed),))
            self.assert_same(bed.tile_set.names(), tiles_of(made(machine)).names())
            self.assert_same(bed.may_come(), (((0, 1), (("first", 0), 0, 1)), ((1, 0), (("first", 0), 1, 0))))

    def test_two_beds_change_alone(self):
        sweeps = made(EATER)
        one, two = bed_of(sweeps), bed_of(sweeps)
        one.come((1, 0), (("first", 0), 1, 0))
        self.assertEqual((one.how_many(), two.how_many()), (2, 1))


if __name__ == "__main__":
    unittest.main()
