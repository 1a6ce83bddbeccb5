"""[66] to [70]: worlds of machines that end."""

import random
import unittest

import plain_healing
from helping import NO_NUMBERS, NO_PLACES, TilesTest
from plain_sweeps import COUNTER, EATER, ending_machines, made
from plain_worlds import PlainWorld
from tilesregrow.beds import Bed
from tilesregrow.blocks import Picture, bed_of
from tilesregrow.compiling import steps_told
from tilesregrow.errors import BadNumber, BadPlace, Loose, NoName, Taken, TooMany
from tilesregrow.healing import rounds_left, wash
from tilesregrow.programs import Program, moments
from tilesregrow.sweeps import run
from tilesregrow.worlds import World

START = (("first", 0), 1, 1)


def whole_world(sweeps):
    world = World(sweeps, 999)
    world.grow(10 ** 6)
    return world


def random_deed(rng, world, plain, slips=True):
    """A deed that can be done."""
    word = rng.choice(("come", "slip", "cut", "wash", "grow", "rounds") if slips else ("come", "cut", "grow", "rounds"))
    if word == "come":
        pairs = world.bed.may_come()
        return (word, *rng.choice(pairs)) if pairs else ("grow", 0)
    if word == "slip":
        place = rng.choice(sorted(plain.due) + [(rng.randrange(-3, 12), rng.randrange(-3, 20))])
        name = plain.due.get(place) if rng.random() < 0.3 else None
        name = name or rng.choice(world.bed.tile_set.names())
        return (word, place, name) if world.bed.at(place) is None else ("rounds", 1)
    if word == "cut":
        return (word, rng.choice(plain_healing.holes(rng, (*world.bed.places(), (30, 30)), (0, 0))))
    return (word,) if word == "wash" else (word, rng.randrange(8) if word == "rounds" else rng.randrange(40))


class WorldTest(TilesTest):
    def assert_world(self, world, plain):
        """All that the world tells is what the plain one tells."""
        self.assertEqual(world.bed.pairs(), plain.bed.pairs())
        pairs = world.bed.pairs()
        self.assert_same(world.wrong(), plain.wrong())
        self.assert_same(world.lacking(), plain.lacking())
        self.assert_same(world.rows(), plain.rows())
        self.assert_same(world.is_whole(), not plain.wrong() and not plain.lacking())
        self.assertEqual(world.bed.pairs(), pairs)

    def test_attributes(self):
        sweeps = made(EATER)
        world = World(most=8, sweeps=sweeps)
        self.assertIs(world.sweeps, sweeps)
        self.assertIsInstance(world.picture, Picture)
        self.assertIs(world.picture.sweeps, sweeps)
        self.assert_same(world.picture.labels, Picture(sweeps, 8).labels)
        self.assertIsInstance(world.bed, Bed)
        self.assert_same(world.bed.pairs(), bed_of(sweeps).pairs())
        self.assertEqual(world.bed.tile_set.names(), bed_of(sweeps).tile_set.names())

    def test_errors_of_pictures(self):
        for most in (0, -1, True, None, 1.0, "8", (8,)):
            self.assert_error(BadNumber, ["most", most], World, made(EATER), most)
        for most in (1, 7):
            self.assert_error(TooMany, ["rows", most + 1, most], World, made(EATER), most)
        for most in (1, 50):
            self.assert_error(TooMany, ["rows", most + 1, most], World, made(COUNTER), most)

    def test_by_hand(self):
        world = World(made((("a", "b"), "s", {("l", "s", "a"): ("s", "b"), ("l", "s", "b"): ("s", "a")},
                            {("l", "s"): None})), 5)
        self.assert_same(world.rows(), ((None, None), (None, None)))
        self.assert_same(world.grow(3), 3)
        self.assert_same(world.rows(), (("a", None), (None, None)))
        self.assert_same((world.wrong(), len(world.lacking()), world.is_whole()), ((), 12, False))
        self.assertIsNone(world.come((2, 0), (("first", 1), 0, 0)))
        self.assert_same(world.rounds(100), 7)
        self.assert_same(world.rows(), (("a", "b"), ("b", "a")))
        self.assert_same((world.wrong(), world.lacking(), world.is_whole()), ((), (), True))
        self.assert_same((world.grow(5), world.rounds(5), world.wash()), (0, 0, ()))
        self.assert_same(world.cut([(3, 3), (0, 3), (9, 9), (0, 3)]), 2)
        self.assert_same(world.rows(), (("a", "b"), (None, None)))
        self.assertIsNone(world.slip((3, 3), START))
        self.assert_same((world.wrong(), world.lacking(), world.is_whole()), (((3, 3),), ((0, 3), (3, 3)), False))
        self.assert_same(world.wash(), ((0, 2), (1, 2), (1, 3), (3, 3)))
        self.assert_same(world.lacking(), ((0, 2), (0, 3), (1, 2), (1, 3), (3, 3)))
        self.assert_same(world.rounds(1), 1)
        self.assert_same(world.lacking(), ((0, 2), (0, 3), (1, 3)))
        self.assert_same(world.grow(10 ** 9), 3)
        world.slip((9, 9), START)
        self.assert_same((world.wrong(), world.lacking(), world.is_whole()), (((9, 9),), (), False))
        self.assert_same(world.rows(), (("a", "b"), ("b", "a")))

    def test_by_name(self):
        world = World(made(EATER), 9)
        world.come(name=(("first", 0), 1, 0), place=(1, 0))
        world.slip(name=START, place=(5, 5))
        self.assert_same((world.cut(places=[(5, 5)]), world.grow(many=2), world.rounds(many=1)), (1, 2, 1))

    def test_rows_of_deeds(self):
        rng = random.Random(161)
        for machine in plain_healing.some_machines(60, seed=161):
            world, plain = World(made(machine), 99), PlainWorld(machine)
            for _ in range(12):
                word, *passed = random_deed(rng, world, plain)
                self.assert_same(getattr(world, word)(*passed), plain.do(word, *passed))
                self.assert_world(world, plain)

    def test_errors_of_the_bed(self):
        world = World(made(EATER), 9)
        world.grow(10)
        pairs = world.bed.pairs()
        name = (("first", 1), 0, 1)
        at = world.bed.places()[3]
        for deed in (world.come, world.slip):
            for place in NO_PLACES:
                self.assert_error(BadPlace, [place], deed, place, "nobody")
            for wrong in ("nobody", None, 5, (("first", 9), 0, 0), ("first", 1)):
                self.assert_error(NoName, [wrong], deed, at, wrong)
            self.assert_error(Taken, [at], deed, at, name)
            self.assert_error(Taken, [(0, 0)], deed, (0, 0), (("first", 0), 0, 0))
        self.assert_error(Loose, [(20, 20), 0], world.come, (20, 20), name)
        for places in ([(0, 0)], [at, (0, 0)], [at, None, (0, 0)], [at, [0, 1]], (at, (True, 1))):
            wrong = places[1] if len(places) > 1 else places[0]
            self.assert_error(BadPlace, [wrong], world.cut, places)
        self.assertEqual(world.bed.pairs(), pairs)

    def test_values_that_are_no_numbers(self):
        world = World(made(EATER), 9)
        for many in NO_NUMBERS:
            self.assert_error(BadNumber, ["many", many], world.grow, many)
            self.assert_error(BadNumber, ["many", many], world.rounds, many)
        self.assert_same(world.bed.how_many(), 1)
        self.assert_same((world.grow(0), world.rounds(0), world.bed.how_many()), (0, 0, 1))

    def test_several_tiles_may_come_at_a_place(self):
        # Beside wrong tiles several tiles may come: the first one in order comes in both deeds.
        machine = EATER
        for deed in ("grow", "rounds"):
            world, plain = World(made(machine), 9), PlainWorld(machine)
            found = 0
            rng = random.Random(162)
            for _ in range(200):
                place = (rng.randrange(-1, 8), rng.randrange(-1, 9))
                name = rng.choice(world.bed.tile_set.names())
                if world.bed.at(place) is None:
                    world.slip(place, name)
                    plain.do("slip", place, name)
                    found += len(world.bed.may_come()) > len({other for other, _ in world.bed.may_come()})
                    self.assert_same(getattr(world, deed)(3), plain.do(deed, 3))
                    self.assertEqual(world.bed.pairs(), plain.bed.pairs())
                else:
                    world.cut([place] if place != (0, 0) else [])
                    plain.do("cut", [place] if place != (0, 0) else [])
            self.assertGreater(found, 5)


class FactsTest(TilesTest):
    def test_without_slips(self):
        rng = random.Random(171)
        for machine in plain_healing.some_machines(60, seed=171):
            world, plain = World(made(machine), 99), PlainWorld(machine)
            for _ in range(10):
                word, *passed = random_deed(rng, world, plain, slips=False)
                getattr(world, word)(*passed)
                self.assert_same(world.wrong(), ())
                lacking, pairs = world.lacking(), world.bed.may_come()
                self.assertEqual(bool(lacking), bool(pairs))
                if pairs:
                    world.come(*rng.choice(pairs))
                    self.assertEqual(len(world.lacking()), len(lacking) - 1)
            left = rounds_left(world.picture, world.bed)
            self.assert_same(world.rounds(10 ** 6), left)
            self.assert_same(world.is_whole(), True)
            self.assert_same(world.rows(), run(made(machine), 99))

    def test_fewer_rounds_than_are_left(self):
        world = World(made(EATER), 9)
        left = rounds_left(world.picture, world.bed)
        self.assert_same((world.rounds(left - 1), world.is_whole(), len(world.lacking())), (left - 1, False, 1))
        self.assert_same((world.rounds(1), world.is_whole(), world.rounds(1)), (1, True, 0))

    def test_a_program(self):
        text = plain_healing.PROGRAM
        for values in ((0, 0), (1, 2), (5, 3)):
            program = Program(text)
            world = whole_world(made(plain_healing.program_machine(values)))
            self.assertEqual(steps_told(program, world.rows()),
                             tuple(told for _, told in moments(program, values, 99)))

    def test_behind_slips_and_washes(self):
        rng = random.Random(172)
        for machine in ending_machines(60, 9, seed=172):
            world, plain = World(made(machine), 99), PlainWorld(machine)
            for _ in range(4):
                for _ in range(rng.randrange(6)):
                    word, *passed = random_deed(rng, world, plain)
                    getattr(world, word)(*passed)
                world.wash()
                self.assert_same(world.wrong(), ())
                lying = dict(world.bed.pairs())
                kept = plain_healing.kept(plain.labels, lying)
                rest = [place for place in lying if (place[0] // 2, place[1] // 2) not in kept]
                self.assertLessEqual(len({(x // 2, y // 2) for x, y in rest}), 1)
                self.assert_same(wash(world.sweeps, world.bed), ())
                if rng.random() < 0.5:
                    world.grow(10 ** 6)
                    self.assert_same(world.is_whole(), True)

    def test_between_a_slip_and_a_wash(self):
        # The wrong tile brings another one, and bars the place of a right one.
        world = World(made(EATER), 9)
        world.slip((2, 0), (("first", 2), 0, 0))
        world.grow(10 ** 6)
        self.assertNotEqual(world.wrong(), ())
        self.assertNotEqual(world.lacking(), ())
        self.assert_same(world.bed.may_come(), ())
        self.assertGreater(len(world.wash()), 0)
        world.grow(10 ** 6)
        self.assert_same(world.is_whole(), True)


if __name__ == "__main__":
    unittest.main()
