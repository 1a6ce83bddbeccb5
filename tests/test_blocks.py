"""[41], [42] and [43]: what is seen on a bed, pictures, and beds that are right."""

import random
import unittest

import plain_blocks
import plain_sweeps as plain
from helping import TilesTest
from plain_sweeps import COUNTER, EATER, made
from tilesregrow.blocks import Picture, bed_of, label_at, shown
from tilesregrow.compiling import steps_told, sweeps_of
from tilesregrow.ends import settle
from tilesregrow.errors import BadNumber, TooMany
from tilesregrow.programs import Program, moments
from tilesregrow.sweeps import run

SMALL = (("a", "b"), "s", {("l", "s", "a"): ("s", "b"), ("l", "s", "b"): ("t", "a"), ("l", "t", "a"): ("t", "a"),
                           ("l", "t", "b"): ("s", "b"), ("r", "u", "a"): ("u", "b"), ("r", "u", "b"): ("v", "a"),
                           ("r", "v", "a"): ("u", "a"), ("r", "v", "b"): ("v", "b")},
         {("l", "s"): None, ("l", "t"): ("u", None), ("r", "u"): ("s", None), ("r", "v"): ("t", "a")})


def table_of(sweeps):
    return sweeps.first, sweeps.begin, sweeps.steps, sweeps.turns


def grow(rng, bed, many=None):
    """So many tiles come, any ones that may; returns the pairs."""
    found = []
    while many is None or len(found) < many:
        pairs = bed.may_come()
        if not pairs:
            break
        found.append(rng.choice(pairs))
        bed.come(*found[-1])
    return found


def holed(rng, bed):
    """Cut some tiles but the seed: single ones, or all in a rectangle."""
    places = [place for place in bed.places() if place != bed.seed_place]
    if not places:
        return
    if rng.random() < 0.5:
        bed.cut(rng.sample(places, rng.randrange(len(places) + 1)))
    else:
        (left, low), (right, high) = rng.choice(places), rng.choice(places)
        bed.cut([(x, y) for x, y in places if left <= x <= right and min(low, high) <= y <= max(low, high)])


class PictureTest(TilesTest):
    def test_by_hand(self):
        picture = Picture(made(EATER), 8)
        self.assert_same(picture.labels[:3], (
            (("first", 0), ("first", 1), ("first", 2)),
            (("last", "l", "seen", "a"), ("step", "l", "seen", "b"), ("start", ("first", 2))),
            (("start", ("last", "l", "seen", "a")), ("step", "r", "go", "b"), ("last", "r", "go", "x"))))
        self.assert_same(picture.labels[7], (
            ("last", "l", "look", "x"), ("step", "l", "look", "x"), ("start", ("last", "r", "go", "x"))))
        self.assert_same(picture.many, 8 * 3 * 4)

    def test_an_extra_letter(self):
        first, begin, steps, turns = COUNTER
        machine = (("1", "1"), begin, {**steps, **{("l", "end", digit): ("end", digit) for digit in "01"}},
                   {**turns, ("r", "add"): ("end", "1"), ("l", "end"): None})
        picture = Picture(most=4, sweeps=made(machine))
        self.assert_same(picture.labels, (
            (("first", 0), ("first", 1)),
            (("last", "l", "back", "1"), ("start", ("first", 1))),
            (("start", ("last", "l", "back", "1")), ("last", "r", "add", "1"), ("extra", "add", "1")),
            (("last", "l", "end", "0"), ("step", "l", "end", "0"), ("start", ("extra", "add", "1")))))
        self.assert_same(picture.many, 4 * (2 + 2 + 3 + 3))

    def test_random_machines(self):
        for machine in plain.ending_machines(120, 12, seed=31):
            sweeps = made(machine)
            rows = plain_blocks.picture(machine, 99)
            picture = Picture(sweeps, len(rows))
            self.assertIs(picture.sweeps, sweeps)
            self.assert_same(picture.labels, rows)
            self.assert_same(picture.many, 4 * sum(len(row) for row in rows))
            told = plain_blocks.tiles(rows)
            for x in range(-3, 2 * max(len(row) for row in rows) + 4):
                for y in range(-3, 2 * len(rows) + 4):
                    self.assert_same(picture.due((x, y)), told.get((x, y)))

    def test_due_by_hand(self):
        picture = Picture(made(EATER), 9)
        for place, told in (((0, 0), (("first", 0), 0, 0)), ((3, 0), (("first", 1), 1, 0)),
                            ((5, 3), (("start", ("first", 2)), 1, 1)), ((0, 3), (("last", "l", "seen", "a"), 0, 1)),
                            ((6, 0), None), ((0, 16), None), ((-1, 0), None), ((0, -1), None), ((-2, -2), None)):
            self.assert_same(picture.due(place), told)
        self.assert_same(picture.due(place=(1, 15)), (("last", "l", "look", "x"), 1, 1))

    def test_errors_of_run(self):
        for most in (0, -1, True, None, 1.0, "8", (8,)):
            self.assert_error(BadNumber, ["most", most], Picture, made(EATER), most)
            self.assert_error(BadNumber, ["most", most], Picture, made(COUNTER), most)
        for most in (1, 2, 7):
            self.assert_error(TooMany, ["rows", most + 1, most], Picture, made(EATER), most)
        for most in (1, 2, 30):
            self.assert_error(TooMany, ["rows", most + 1, most], Picture, made(COUNTER), most)


class SeenTest(TilesTest):
    def test_labels_on_a_whole_bed(self):
        for machine in (EATER, *plain.ending_machines(25, 8, seed=32)):
            bed = bed_of(made(machine))
            settle(bed, 10 ** 6)
            rows = plain_blocks.picture(machine, 99)
            for row in range(-2, len(rows) + 2):
                for column in range(-2, len(rows[-1]) + 2):
                    inside = 0 <= row < len(rows) and 0 <= column < len(rows[row])
                    self.assert_same(label_at(bed, column, row), rows[row][column] if inside else None)

    def test_a_block_with_three_tiles_or_wrong_ones(self):
        bed = bed_of(made(EATER))
        label = ("first", 0)
        self.assert_same(label_at(bed, 0, 0), None)
        for x, y in ((1, 0), (0, 1)):
            bed.come((x, y), (label, x, y))
            self.assert_same(label_at(bed, 0, 0), None)
        self.assert_same(shown(made(EATER), bed), ())
        for name in ((("first", 1), 1, 1), (label, 0, 1), (("step", "l", "seen", "a"), 1, 1)):
            bed.slip((1, 1), name)
            self.assert_same(label_at(bed, row=0, column=0), None)
            self.assert_same(shown(made(EATER), bed), ())
            bed.cut([(1, 1)])
        bed.come((1, 1), (label, 1, 1))
        self.assert_same(label_at(bed, 0, 0), label)
        self.assert_same(shown(bed=bed, sweeps=made(EATER)), ((0, 0, "a"),))

    def test_wrong_blocks_beside_the_picture(self):
        bed = bed_of(made(EATER))
        for column, row, label in ((-3, -1, ("first", 2)), (7, -1, ("step", "l", "look", "a")), (0, 5, ("first", 1)),
                                   (-1, 5, ("start", ("last", "r", "go", "b"))), (-1, 0, ("last", "r", "go", "c"))):
            for x in (0, 1):
                for y in (0, 1):
                    bed.slip((2 * column + x, 2 * row + y), (label, x, y))
            self.assert_same(label_at(bed, column, row), label)
        # Four tiles of a label that lie between the blocks are no block.
        for x in (0, 1):
            for y in (0, 1):
                bed.slip((21 + x, 2 + y), (("first", 1), x, y))
        self.assert_same(shown(made(EATER), bed), (
            (-3, -1, "c"), (7, -1, "x"), (-1, 0, "c"), (-1, 5, "x"), (0, 5, "b")))

    def test_whole_beds_show_the_rows_of_run(self):
        for machine in (EATER, *plain.ending_machines(25, 8, seed=33)):
            sweeps = made(machine)
            bed = bed_of(sweeps)
            settle(bed, 10 ** 6)
            self.assert_same(shown(sweeps, bed), tuple(
                (column, row, letter) for row, told in enumerate(plain.run(machine, 99))
                for column, letter in enumerate(told)))

    def test_beds_in_any_state(self):
        rng = random.Random(34)
        for machine in plain.ending_machines(40, 6, seed=34):
            sweeps = made(machine)
            picture = Picture(sweeps, 99)
            told = plain_blocks.tiles(plain_blocks.picture(machine, 99))
            bed = bed_of(sweeps)
            for _ in range(12):
                self.change(rng, bed, told)
                lying = dict(bed.pairs())
                self.assert_same(picture.lacking(bed), tuple(sorted(
                    place for place in told if lying.get(place) != told[place])))
                self.assert_same(picture.strange(bed=bed), tuple(sorted(
                    place for place in lying if lying[place] != told.get(place))))
                self.assert_same(shown(sweeps, bed), plain_blocks.shown(machine, lying))
                self.assertEqual(dict(bed.pairs()), lying)

    def change(self, rng, bed, told):
        """Some tiles come, slip or go."""
        deed = rng.randrange(4)
        if deed == 0:
            grow(rng, bed, rng.randrange(20))
        elif deed == 1:
            holed(rng, bed)
        elif deed == 2:
            for place in rng.sample(sorted(told), rng.randrange(len(told))):
                if bed.at(place) is None:
                    bed.slip(place, told[place])
        else:
            for _ in range(rng.randrange(5)):
                place = (rng.randrange(-3, 12), rng.randrange(-3, 12))
                if bed.at(place) is None:
                    bed.slip(place, rng.choice(bed.tile_set.names()))


class RightBedsTest(TilesTest):
    def assert_right(self, bed, due):
        """What may come is of the picture, one tile at each place; returns whether something may come."""
        pairs = bed.may_come()
        self.assertEqual([(place, due.get(place)) for place, _ in pairs], list(pairs))
        self.assertEqual(len({place for place, _ in pairs}), len(pairs))
        return pairs

    def test_any_order_and_any_holes(self):
        rng = random.Random(35)
        for machine in (SMALL, EATER, *plain.ending_machines(60, 8, seed=35)):
            sweeps = made(machine)
            picture = Picture(sweeps, 99)
            due = plain_blocks.tiles(plain_blocks.picture(machine, 99))
            bed = bed_of(sweeps)
            for _ in range(4):
                many = rng.choice((None, None, rng.randrange(40)))
                while many is None or many > 0:
                    pairs = self.assert_right(bed, due)
                    self.assertEqual(bool(pairs), bool(picture.lacking(bed)))
                    if not pairs:
                        break
                    lacking = len(picture.lacking(bed))
                    bed.come(*rng.choice(pairs))
                    self.assertEqual(len(picture.lacking(bed)), lacking - 1)
                    many = None if many is None else many - 1
                holed(rng, bed)
                self.assert_same(picture.strange(bed), ())
            grow(rng, bed)
            self.assertEqual(dict(bed.pairs()), due)
            self.assert_same((picture.lacking(bed), picture.strange(bed)), ((), ()))
            self.assert_same(shown(sweeps, bed), tuple(
                (column, row, letter) for row, told in enumerate(run(sweeps, 99))
                for column, letter in enumerate(told)))

    def test_sweeps_without_an_end(self):
        rng = random.Random(36)
        machines = [COUNTER] + [machine for machine in plain.random_machines(60, seed=36, ends=0)
                                if len(plain_blocks.picture(machine, 9)[-1]) < 9]
        for machine in machines:
            bed = bed_of(made(machine))
            # Rows go on for ever, but so few tiles as come here cannot lie above these.
            due = plain_blocks.tiles(plain_blocks.picture(machine, 60))
            for _ in range(3):
                for _ in range(rng.randrange(60)):
                    pairs = self.assert_right(bed, due)
                    self.assertNotEqual(pairs, ())
                    bed.come(*rng.choice(pairs))
                holed(rng, bed)
            for _ in range(60):
                lacking = [place for place in due if place[1] < 8 and bed.at(place) is None]
                pairs = [pair for pair in self.assert_right(bed, due) if pair[0][1] < 8]
                self.assertEqual(bool(pairs), bool(lacking))
                bed.come(*rng.choice(pairs or bed.may_come()))

    def test_a_program(self):
        program = Program("registers a b\ncolours red blue\nat more\nifzero b out\ndec b\nadd a a\ninc a\njump more\n"
                          "at out\npaint blue\n")
        sweeps = sweeps_of(program, (1, 2))
        picture = Picture(sweeps, 100)
        bed = bed_of(sweeps)
        rng = random.Random(37)
        for _ in range(3):
            grow(rng, bed)
            self.assert_same((picture.lacking(bed), picture.strange(bed)), ((), ()))
            rows = [[] for _ in picture.labels]
            for column, row, letter in shown(sweeps, bed):
                self.assertEqual(len(rows[row]), column)
                rows[row].append(letter)
            self.assertEqual(steps_told(program, rows), tuple(numbers for _, numbers in moments(program, (1, 2), 99)))
            self.assertEqual({colour for _, colour in rows[-1]}, {"blue"})
            holed(rng, bed)


if __name__ == "__main__":
    unittest.main()
