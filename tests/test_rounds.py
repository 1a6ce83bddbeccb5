"""[9] and [10]: rounds, settling, and what holds for the rounds of beds with one end."""

import random
import unittest

import plain
from helping import NO_NUMBERS, TilesTest
from test_bed import all_of, corner_bed, random_histories
from tilesregrow.beds import NONE, Bed, Tile, TileSet
from tilesregrow.ends import OneEnd, ends_of, rounds_of, settle
from tilesregrow.errors import BadNumber, TooMany

CORNER_ROUNDS = ((((0, 1), "b"), ((1, 0), "a")), (((1, 1), "c"),))


def endless_bed():
    glue = ("all", 2)
    return Bed(TileSet([Tile("x", glue, glue, glue, glue)]), (0, 0), "x")


def rival_bed():
    """Behind the seed three tiles may come at each place of a row; only with the first one in order it goes on."""
    glue, other = ("row", 2), ("last", 2)
    return Bed(TileSet([
        Tile("s", NONE, NONE, glue, NONE), Tile(("z",), glue, NONE, glue, NONE), Tile("b", glue, NONE, other, NONE),
        Tile(-1, other, NONE, NONE, NONE), Tile(1, other, NONE, glue, NONE)]), (0, 0), "s")


class RoundsTest(TilesTest):
    def test_without_rivals(self):
        bed = Bed(plain.grid_set(3, 2), (5, 5), (0, 0))
        self.assert_same(rounds_of(bed, 6), (
            (((5, 6), (0, 1)), ((6, 5), (1, 0))),
            (((6, 6), (1, 1)), ((7, 5), (2, 0))),
            (((7, 6), (2, 1)),)))

    def test_of_rivals_the_first_one_in_order_comes(self):
        bed = corner_bed()
        self.assert_same(rounds_of(bed, 4), CORNER_ROUNDS)
        self.assert_same(rounds_of(most=100, bed=bed), CORNER_ROUNDS)
        self.assert_same(rounds_of(rival_bed(), 3), ((((1, 0), "b"),), (((2, 0), -1),)))

    def test_what_comes_in_a_round_could_come_when_it_began(self):
        # The tile in the midst of the ring could come in round 2, but not in round 1, in which its support comes.
        bed = Bed(TileSet([
            Tile("s", NONE, NONE, ("e", 2), ("n", 2)), Tile("e", ("e", 2), NONE, NONE, ("m", 1)),
            Tile("n", NONE, ("n", 2), ("k", 1), NONE), Tile("m", ("k", 1), ("m", 1), NONE, NONE),
            Tile("q", NONE, ("m", 1), NONE, NONE)]), (0, 0), "s")
        self.assert_same(rounds_of(bed, 9), (
            (((0, 1), "n"), ((1, 0), "e")), (((1, 1), "m"),)))

    def test_an_ended_bed_has_no_rounds(self):
        bed = corner_bed()
        settle(bed, 4)
        for most in (0, 1, 3, 4, 5):
            self.assert_same(rounds_of(bed, most), ())
            self.assert_same(settle(bed, most), 0)

    def test_the_bed_stays_as_it_is(self):
        bed = corner_bed()
        before = all_of(bed)
        rounds_of(bed, 10)
        self.assert_error(TooMany, ["tiles", 3, 2], rounds_of, bed, 2)
        self.assertEqual(all_of(bed), before)

    def test_most(self):
        bed = corner_bed()
        for most, many in ((0, 3), (1, 3), (2, 3), (3, 4)):
            self.assert_error(TooMany, ["tiles", many, most], rounds_of, bed, most)
        self.assert_same(rounds_of(bed, 4), CORNER_ROUNDS)
        endless = endless_bed()
        for most, many in ((0, 5), (1, 5), (4, 5), (5, 13), (12, 13), (13, 25), (24, 25), (1000, 1013)):
            self.assert_error(TooMany, ["tiles", many, most], rounds_of, endless, most)

    def test_no_numbers(self):
        for most in NO_NUMBERS:
            self.assert_error(BadNumber, ["most", most], rounds_of, corner_bed(), most)
            self.assert_error(BadNumber, ["most", most], rounds_of, endless_bed(), most)
            self.assert_error(BadNumber, ["most", most], settle, corner_bed(), most)

    def test_beds_behind_many_deeds(self):
        for bed, told, lying in random_histories(25, 21):
            try:
                found = rounds_of(bed, 60)
            except TooMany as error:
                self.assert_same((error.what, error.limit), ("tiles", 60))
                self.assertGreater(error.many, 60)
            else:
                self.assert_same(found, plain.rounds(told, lying))


class SettleTest(TilesTest):
    def test_all_comes(self):
        bed = corner_bed()
        self.assert_same(settle(most=4, bed=bed), 3)
        self.assert_same(bed.pairs(), (((0, 0), "s"), ((0, 1), "b"), ((1, 0), "a"), ((1, 1), "c")))
        self.assert_same(settle(bed, 4), 0)
        bed = rival_bed()
        self.assert_same(settle(bed, 10), 2)
        self.assert_same(bed.pairs(), (((0, 0), "s"), ((1, 0), "b"), ((2, 0), -1)))

    def test_or_nothing(self):
        for bed, most, many in ((corner_bed(), 3, 4), (corner_bed(), 1, 3), (endless_bed(), 50, 61)):
            before = all_of(bed)
            self.assert_error(TooMany, ["tiles", many, most], settle, bed, most)
            self.assertEqual(all_of(bed), before)
            self.assert_error(BadNumber, ["most", True], settle, bed, True)
            self.assertEqual(all_of(bed), before)

    def test_it_is_all_rounds(self):
        for bed, told, lying in random_histories(25, 22):
            try:
                found = rounds_of(bed, 60)
            except TooMany:
                continue
            told = dict(lying)
            for step in found:
                told.update(dict(step))
            self.assert_same(settle(bed, 60), sum(len(step) for step in found))
            self.assert_same(bed.pairs(), tuple(sorted(told.items())))
            self.assert_same(bed.may_come(), ())


def numbered(bed, most):
    """The round of each place."""
    found = {place: 0 for place in bed.places()}
    for number, step in enumerate(rounds_of(bed, most), start=1):
        found.update({place: number for place, _ in step})
    return found


def with_tiles(bed, pairs):
    """The bed of the same set and seed on which just these tiles lie, too."""
    other = Bed(bed.tile_set, bed.seed_place, bed.seed_name)
    for place, name in pairs:
        if place != bed.seed_place:
            other.slip(place, name)
    return other


class FactsTest(TilesTest):
    def beds(self, many, seed):
        return [(bed, told) for bed, told, _ in plain.random_beds(many, 12, seed)]

    def test_bonds_with_the_rounds_below(self):
        for bed, told in self.beds(150, 31):
            step_of = numbered(bed, 40)
            end = bed.twin()
            settle(end, 40)
            for place, name in end.pairs():
                number = step_of[place]
                below = {other: end.at(other) for other in step_of if step_of[other] < number}
                before = {other: end.at(other) for other in step_of if step_of[other] < number - 1}
                if number > 0:
                    self.assertGreaterEqual(plain.bonds(told, below, place, name), 2)
                    self.assertLess(plain.bonds(told, before, place, name), 2)

    def test_no_tile_comes_in_a_step_with_a_lesser_number_than_its_round(self):
        rng = random.Random(32)
        for bed, _ in self.beds(150, 33):
            if not isinstance(ends_of(bed, 40), OneEnd):
                continue
            step_of = numbered(bed, 40)
            grown = bed.twin()
            number = 0
            while grown.may_come():
                number += 1
                for place, name in grown.may_come():
                    if rng.random() < 0.5:
                        grown.come(place, name)
                        self.assertLessEqual(step_of[place], number)

    def test_more_tiles_give_no_place_a_greater_round(self):
        rng = random.Random(34)
        many = 0
        for bed, _ in self.beds(200, 35):
            paper = ends_of(bed, 40)
            if not isinstance(paper, OneEnd) or len(paper.comings) < 2:
                continue
            kept = list(bed.pairs())
            second = with_tiles(bed, kept + [pair for pair in paper.comings if rng.random() < 0.4])
            if isinstance(ends_of(second, 40), OneEnd):
                one, two = numbered(bed, 40), numbered(second, 40)
                self.assertEqual(sorted(one), sorted(two))
                self.assertTrue(all(two[place] <= one[place] for place in one))
                many += 1
        self.assertGreater(many, 30)


if __name__ == "__main__":
    unittest.main()
