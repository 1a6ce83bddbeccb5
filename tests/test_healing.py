"""[15] and [16]: scars and healing."""

import itertools
import random
import unittest

import plain
from helping import NO_PLACES, TilesTest
from test_bed import all_of, corner_bed, whole_corner
from test_ends import walled_chain, walled_grid
from test_rounds import endless_bed, with_tiles
from tilesregrow.beds import NONE, Bed, Tile, TileSet
from tilesregrow.ends import (Heals, OneEnd, Scar, ends_of, first_run, healing_of, is_healing, is_scar, rounds_of,
                              scar_of, settle)
from tilesregrow.errors import BadPlace, NotKept


def settled(bed):
    settle(bed, 100)
    return bed


def whole_grid():
    return settled(Bed(plain.grid_set(3, 3), (0, 0), (0, 0)))


def whole_chain():
    return settled(walled_chain())


def all_but_seed(bed):
    return tuple(place for place in bed.places() if place != bed.seed_place)


class AttributesTest(TilesTest):
    def test_attributes(self):
        self.assertEqual(Heals("c").comings, "c")
        self.assertEqual(Heals(comings="c").comings, "c")
        for scar in (Scar("h", "c"), Scar(comings="c", hole="h")):
            self.assertEqual((scar.hole, scar.comings), ("h", "c"))
            self.assertNotIsInstance(scar, Heals)


class ScarOfTest(TilesTest):
    def assert_heals(self, bed, hole):
        before = all_of(bed)
        self.assertIsNone(scar_of(bed, hole))
        self.assertEqual(all_of(bed), before)

    def assert_scar(self, bed, hole, gone):
        before = all_of(bed)
        scar = scar_of(bed, hole)
        self.assertIsInstance(scar, Scar)
        self.assert_same(scar.hole, gone)
        self.assertTrue(plain.is_scar(plain.glues(bed.tile_set), dict(bed.pairs()), bed.seed_place,
                                      scar.hole, scar.comings))
        self.assertIs(is_scar(bed, scar), True)
        self.assertEqual(all_of(bed), before)

    def test_holes_that_heal(self):
        bed = whole_grid()
        for hole in ([], (), [(1, 1)], all_but_seed(bed), list(all_but_seed(bed))[::-1], [(2, 2), (0, 1), (2, 2)],
                     [(9, 9)], [(9, 9), (1, 2), (-4, 0), (9, 9), (1, 1)]):
            self.assert_heals(bed, hole)
        self.assertIsNone(scar_of(hole=[(1, 1)], bed=bed))

    def test_a_wrong_tile_comes_at_once(self):
        self.assert_scar(whole_chain(), [(1, 0)], ((1, 0),))
        self.assert_scar(whole_chain(), [(3, 0), (9, 9), (3, 0), (1, 0)], ((1, 0), (3, 0)))
        self.assert_scar(whole_corner(), ((1, 0),), ((1, 0),))
        self.assert_heals(whole_chain(), [(2, 0)])
        self.assert_heals(whole_chain(), all_but_seed(whole_chain()))

    def test_a_wrong_tile_that_is_the_first_one_in_order(self):
        bed = settled(walled_grid())
        self.assert_same(bed.fitting((1, 1)), ("rival", "z", (1, 1)))
        self.assert_scar(bed, [(1, 1)], ((1, 1),))
        # (1, 2) may come back ahead of (1, 1), but not without (2, 2).
        self.assert_scar(bed, [(1, 1), (1, 2)], ((1, 1), (1, 2)))
        self.assert_heals(bed, [(1, 1), (1, 2), (2, 2)])

    def test_a_wrong_tile_may_come_although_the_first_run_leads_back(self):
        bed = settled(Bed(TileSet([*plain.chain_set(3).tiles, Tile(9, NONE, NONE, (("chain", 2), 2), NONE)]),
                          (0, 0), ("row", 0)))
        self.assert_same(bed.fitting((1, 0)), (("row", 1), 9))
        self.assert_scar(bed, [(1, 0)], ((1, 0),))
        self.assert_heals(bed, [(2, 0)])
        self.assert_heals(bed, [(2, 0), (1, 0)])

    def test_a_rival_that_has_its_bonds_from_what_comes_back(self):
        # Without (1, 0) and (2, 0) nothing wrong fits at first; (2, 0) comes back from the north, then the rival may.
        ring = [Tile("s", NONE, NONE, ("e", 2), ("n", 2)), Tile("a", ("e", 2), NONE, ("f", 2), NONE),
                Tile("n", NONE, ("n", 2), ("m", 2), NONE), Tile("m", ("m", 2), NONE, ("k", 2), NONE),
                Tile("k", ("k", 2), ("d", 2), NONE, NONE), Tile("f", ("f", 2), NONE, NONE, ("d", 2))]
        bed = settled(Bed(TileSet([*ring, Tile("z", NONE, NONE, ("f", 2), NONE)]), (0, 0), "s"))
        self.assert_same(bed.pairs(), (
            ((0, 0), "s"), ((0, 1), "n"), ((1, 0), "a"), ((1, 1), "m"), ((2, 0), "f"), ((2, 1), "k")))
        self.assert_scar(bed, [(2, 0), (1, 0)], ((1, 0), (2, 0)))
        self.assert_scar(bed, [(1, 0)], ((1, 0),))
        self.assert_heals(bed, [(2, 0)])
        self.assert_scar(bed, list(all_but_seed(bed)), all_but_seed(bed))

    def test_wrong_tiles_that_would_come_without_an_end(self):
        for wrong in ("0", "z"):
            bed = Bed(TileSet([
                Tile("s", NONE, NONE, ("e", 2), NONE), Tile("a", ("e", 2), NONE, NONE, NONE),
                Tile(wrong, ("e", 2), NONE, ("x", 2), NONE), Tile("x", ("x", 2), NONE, ("x", 2), NONE)]), (0, 0), "s")
            bed.come((1, 0), "a")
            self.assert_scar(bed, [(1, 0)], ((1, 0),))
            self.assertIs(is_scar(bed, healing_of(bed)), True)
            self.assert_heals(bed, [])

    def test_something_may_lack_for_ever(self):
        bed = whole_grid()
        bed.slip((5, 5), (1, 1))
        self.assert_scar(bed, [(5, 5)], ((5, 5),))
        self.assert_scar(bed, [(1, 1), (5, 5), (0, 2)], ((0, 2), (1, 1), (5, 5)))
        self.assert_heals(bed, [(1, 1), (0, 2)])

    def test_no_places_and_the_seeds_place(self):
        for bed in (whole_grid(), corner_bed(), endless_bed()):
            for place in NO_PLACES + ((0, 0),):
                self.assert_error(BadPlace, [place], scar_of, bed, [place])
                self.assert_error(BadPlace, [place], scar_of, bed, ((1, 1), (9, 9), place, (0, 0), None))
        self.assert_error(BadPlace, [(3, 4)], scar_of, Bed(plain.grid_set(2, 2), (3, 4), (1, 0)), [(0, 0), (3, 4)])

    def test_beds_that_are_not_ended(self):
        self.assert_error(NotKept, ["ended", ((0, 1), "b")], scar_of, corner_bed(), [])
        self.assert_error(NotKept, ["ended", ((-1, 0), "x")], scar_of, endless_bed(), [(1, 1)])
        bed = whole_corner()
        bed.cut([(1, 0), (1, 1)])
        self.assert_error(NotKept, ["ended", ((1, 0), "a")], scar_of, bed, [(0, 1)])

    def test_the_passed_list_stays_as_it_was(self):
        hole = [(2, 2), (9, 9), (1, 1), (2, 2)]
        scar_of(whole_grid(), hole)
        self.assert_same(hole, [(2, 2), (9, 9), (1, 1), (2, 2)])


class HealingOfTest(TilesTest):
    def assert_heals(self, bed, comings):
        before = all_of(bed)
        paper = healing_of(bed)
        self.assertIsInstance(paper, Heals)
        self.assert_same(paper.comings, comings)
        self.assertIs(is_healing(bed, paper), True)
        self.assertEqual(all_of(bed), before)

    def assert_scar(self, bed):
        before = all_of(bed)
        paper = healing_of(bed)
        self.assertIsInstance(paper, Scar)
        self.assertTrue(plain.is_scar(plain.glues(bed.tile_set), dict(bed.pairs()), bed.seed_place,
                                      paper.hole, paper.comings))
        self.assert_same(paper.hole, tuple(sorted(set(paper.hole))))
        self.assertIs(is_scar(bed, paper), True)
        self.assertEqual(all_of(bed), before)

    def test_beds_that_heal(self):
        bed = whole_grid()
        self.assert_heals(bed, tuple(((x, y), (x, y)) for x in range(3) for y in range(3) if (x, y) != (0, 0)))
        self.assert_heals(settled(plain.seeded(plain.chain_set(4))), tuple(((x, 0), ("row", x)) for x in (1, 2, 3)))
        self.assert_heals(plain.seeded(plain.chain_set(1)), ())
        self.assertIsInstance(healing_of(bed=whole_grid()), Heals)

    def test_a_seed_for_whose_place_another_tile_fits(self):
        tiles = plain.chain_set(2).tiles + (Tile("other", NONE, NONE, (("chain", 1), 2), NONE),)
        bed = settled(plain.seeded(TileSet(tiles)))
        self.assert_same(bed.fitting((0, 0)), ("other", ("row", 0)))
        self.assert_heals(bed, (((1, 0), ("row", 1)),))

    def test_beds_that_do_not(self):
        self.assert_scar(whole_chain())
        self.assert_scar(settled(walled_grid()))
        self.assert_scar(whole_corner())
        bed = whole_grid()
        bed.slip((5, 5), (1, 1))
        self.assert_scar(bed)

    def test_a_bed_that_heals_from_each_place_but_not_from_its_seed(self):
        # Each of the two tiles far from the seed brings the other one back, but nothing brings both.
        glue = ("pair", 2)
        bed = Bed(TileSet([Tile("s", NONE, NONE, NONE, NONE), Tile("l", NONE, NONE, glue, NONE),
                           Tile("r", glue, NONE, NONE, NONE)]), (0, 0), "s")
        bed.slip((4, 4), "l")
        settle(bed, 10)
        self.assertIsNone(scar_of(bed, [(4, 4)]))
        self.assertIsNone(scar_of(bed, [(5, 4)]))
        self.assert_scar(bed)
        self.assert_same(healing_of(bed).hole, ((4, 4), (5, 4)))

    def test_beds_that_are_not_ended(self):
        self.assert_error(NotKept, ["ended", ((0, 1), "b")], healing_of, corner_bed())
        self.assert_error(NotKept, ["ended", ((-1, 0), "x")], healing_of, endless_bed())
        bed = whole_corner()
        bed.cut([(1, 0), (1, 1)])
        self.assert_error(NotKept, ["ended", ((1, 0), "a")], healing_of, bed)


class IsScarTest(TilesTest):
    def assert_judged(self, bed, hole, comings, told):
        before = all_of(bed)
        self.assertIs(is_scar(bed, Scar(hole, comings)), told)
        self.assertEqual(all_of(bed), before)

    def test_right_ones(self):
        bed = whole_corner()
        self.assert_judged(bed, ((1, 0),), (((1, 0), "f"),), True)
        self.assert_judged(bed, ((1, 1), (1, 0)), (((1, 0), "f"),), True)
        self.assert_judged(bed, ((1, 1), (1, 0), (1, 1)), (((1, 0), "f"),), True)
        self.assert_judged(bed, ((0, 1), (1, 0)), (((0, 1), "b"), ((1, 0), "f")), True)
        self.assert_judged(bed, ((0, 1), (1, 0)), (((1, 0), "f"), ((0, 1), "b")), True)
        bed = whole_grid()
        bed.slip((5, 5), (1, 1))
        self.assert_judged(bed, ((5, 5),), (), True)
        self.assert_judged(bed, ((5, 5), (2, 2)), (((2, 2), (2, 2)),), True)
        self.assertIs(is_scar(paper=Scar(((5, 5),), ()), bed=bed), True)

    def test_wrong_ones(self):
        bed = whole_corner()
        for hole, comings in (
                ((), ()), (((1, 0),), ()), (((1, 0),), (((1, 0), "a"),)), (((1, 0),), (((1, 0), "nobody"),)),
                (((1, 0),), (((1, 0), None),)), (((1, 0),), (((1, 0), "c"),)), (((0, 1),), (((1, 0), "f"),)),
                (((1, 0), (0, 1)), (((1, 0), "a"), ((0, 1), "b"))), ((), (((1, 0), "f"),)),
                (((1, 0),), (((1, 0), "f"), ((1, 0), "f"))), (((1, 0),), (((1, 0), "a"), ((1, 0), "f")))):
            self.assert_judged(bed, hole, comings, False)
        bed = whole_grid()
        bed.slip((5, 5), (1, 1))
        self.assert_judged(bed, ((5, 5), (2, 2)), (), False)
        self.assert_judged(bed, ((2, 2),), (((2, 2), (2, 2)),), False)

    def test_holes_that_are_none(self):
        bed = whole_corner()
        self.assert_judged(bed, ((1, 0), (9, 9)), (((1, 0), "f"),), False)
        self.assert_judged(bed, ((1, 0), (0, 0)), (((1, 0), "f"),), False)
        self.assert_judged(bed, ((0, 0),), (), False)
        self.assert_judged(bed, ((9, 9),), (), False)

    def test_beds_that_are_not_ended(self):
        bed = corner_bed()
        bed.come((1, 0), "a")
        self.assert_judged(bed, ((1, 0),), (((1, 0), "f"),), False)
        bed = whole_grid()
        bed.slip((5, 5), (1, 1))
        bed.cut([(2, 2)])
        self.assert_judged(bed, ((5, 5),), (((2, 2), (2, 2)),), False)
        self.assert_judged(bed, ((5, 5),), (), False)


class IsHealingTest(TilesTest):
    def assert_judged(self, bed, comings, told):
        before = all_of(bed)
        self.assertIs(is_healing(bed, Heals(comings)), told)
        self.assertEqual(all_of(bed), before)

    RUN = tuple(((x, y), (x, y)) for x in range(3) for y in range(3) if (x, y) != (0, 0))

    def test_right_ones(self):
        other = tuple(((x, y), (x, y)) for y in range(3) for x in range(3) if (x, y) != (0, 0))
        self.assert_judged(whole_grid(), self.RUN, True)
        self.assert_judged(whole_grid(), other, True)
        self.assert_judged(plain.seeded(plain.chain_set(1)), (), True)
        self.assertIs(is_healing(paper=Heals(self.RUN), bed=whole_grid()), True)

    def test_a_coming_less_or_more_or_another(self):
        run = self.RUN
        self.assert_judged(whole_grid(), (), False)
        self.assert_judged(whole_grid(), run[::-1], False)
        self.assert_judged(whole_grid(), run + (((3, 3), (2, 2)),), False)
        self.assert_judged(whole_grid(), run + run[-1:], False)
        self.assert_judged(whole_grid(), (((0, 0), (0, 0)),) + run, False)
        for index in range(len(run)):
            self.assert_judged(whole_grid(), run[:index] + run[index + 1:], False)
            for name in ("nobody", None, (0, 0), (9, 9)):
                self.assert_judged(whole_grid(), run[:index] + ((run[index][0], name),) + run[index + 1:], False)

    def test_other_tiles_that_fit(self):
        bed = whole_chain()
        self.assert_judged(bed, first_run(walled_chain(), 5), False)
        bed = whole_corner()
        self.assert_judged(bed, (((0, 1), "b"), ((1, 0), "a"), ((1, 1), "c")), False)

    def test_a_bed_that_the_run_does_not_make(self):
        bed = whole_grid()
        bed.slip((5, 5), (0, 0))
        bed.come((5, 6), (0, 1))
        bed.come((6, 5), (1, 0))
        settle(bed, 100)
        self.assert_judged(bed, self.RUN, False)
        bed = corner_bed()
        bed.come((1, 0), "f")
        bed.come((0, 1), "b")
        self.assert_judged(bed, (((1, 0), "a"), ((0, 1), "b")), False)

    def test_beds_that_are_not_ended(self):
        self.assert_judged(Bed(plain.grid_set(3, 3), (0, 0), (0, 0)), self.RUN, False)
        self.assert_judged(Bed(plain.grid_set(3, 3), (0, 0), (0, 0)), (), False)
        bed = whole_grid()
        bed.cut([(2, 2)])
        self.assert_judged(bed, self.RUN, False)
        self.assert_judged(bed, self.RUN[:-1], False)


def ended_beds(many, seed):
    """Small ended beds, each with the dict of its glues and its plain bed, of at most eight tiles."""
    rng = random.Random(seed)
    found = []
    for bed, told, lying in plain.random_beds(many, 9, seed):
        for place, name in plain.first_run(told, lying):
            bed.come(place, name)
        if rng.random() < 0.2:
            free = [place for place in ((3, 3), (0, 2), (-2, -2)) if bed.at(place) is None]
            if free:
                twin = bed.twin()
                twin.slip(free[0], rng.choice(list(told)))
                bed = bed if twin.may_come() else twin
        if bed.how_many() <= 8:
            found.append((bed, told, dict(bed.pairs())))
    return found


def holes_of(bed):
    places = all_but_seed(bed)
    for many in range(len(places) + 1):
        yield from itertools.combinations(places, many)


class AllHolesTest(TilesTest):
    """[16] on small beds, over all holes."""

    @classmethod
    def setUpClass(cls):
        cls.beds = ended_beds(220, 71)

    def test_scar_of_each_hole_and_healing_of(self):
        rng = random.Random(72)
        counts = {"heals": 0, "scars": 0, Heals: 0, Scar: 0}
        for bed, told, lying in self.beds:
            all_heal = True
            for hole in holes_of(bed):
                passed = list(hole) + list(hole[:2]) + [(40, 40)]
                rng.shuffle(passed)
                scar = scar_of(bed, passed)
                if plain.heals(told, lying, hole):
                    self.assertIsNone(scar)
                    counts["heals"] += 1
                else:
                    all_heal = False
                    self.assert_same(scar.hole, hole)
                    self.assertTrue(plain.is_scar(told, lying, bed.seed_place, hole, scar.comings))
                    counts["scars"] += 1
            paper = healing_of(bed)
            self.assertIsInstance(paper, Heals if all_heal else Scar)
            counts[paper.__class__] += 1
            if all_heal:
                seed = Bed(bed.tile_set, bed.seed_place, bed.seed_name)
                self.assert_same(paper.comings, first_run(seed, 20))
                self.assertIs(is_healing(bed, paper), True)
            else:
                self.assertTrue(plain.is_scar(told, lying, bed.seed_place, paper.hole, paper.comings))
                self.assertIs(is_scar(bed, paper), True)
        self.assertTrue(all(many > 30 for many in counts.values()), counts)

    def test_the_holes_of_one_place_and_of_all_places_are_enough(self):
        for bed, told, lying in self.beds:
            places = all_but_seed(bed)
            ones = all(scar_of(bed, [place]) is None for place in places)
            fits = all(bed.fitting(place) == (lying[place],) for place in places)
            self.assertEqual(ones, fits)
            self.assertEqual(isinstance(healing_of(bed), Heals), ones and scar_of(bed, places) is None)

    def test_no_bed_has_both_papers(self):
        rng = random.Random(73)
        for bed, told, lying in self.beds:
            paper = healing_of(bed)
            if isinstance(paper, Scar):
                seed = Bed(bed.tile_set, bed.seed_place, bed.seed_name)
                for comings in ((), paper.comings, tuple(pair for pair in bed.pairs() if pair[0] != bed.seed_place),
                                ends_of(seed, 400).comings if isinstance(self.end(seed), OneEnd) else ()):
                    self.assertIs(is_healing(bed, Heals(comings)), False)
                continue
            for hole in itertools.islice(holes_of(bed), 12):
                torn = bed.twin()
                torn.cut(hole)
                run = []
                while torn.may_come() and rng.random() < 0.9:
                    run.append(rng.choice(torn.may_come()))
                    torn.come(*run[-1])
                self.assertIs(is_scar(bed, Scar(hole, tuple(run))), False)

    def end(self, bed):
        try:
            return ends_of(bed, 60)
        except ValueError:
            return None

    def test_beds_that_heal_come_back_in_every_order(self):
        rng = random.Random(74)
        for bed, told, lying in self.beds:
            if not isinstance(healing_of(bed), Heals):
                continue
            torn = bed.twin()
            for _ in range(40):
                lacking = [place for place in lying if torn.at(place) is None]
                self.assertTrue(all(lying.get(place) == name for place, name in torn.pairs()))
                self.assertEqual(bool(lacking), bool(torn.may_come()))
                if lacking and rng.random() < 0.7:
                    place, name = rng.choice(torn.may_come())
                    torn.come(place, name)
                    self.assertEqual(sum(torn.at(place) is None for place in lying), len(lacking) - 1)
                else:
                    torn.cut([place for place in all_but_seed(torn) if rng.random() < 0.4])

    def test_no_hole_has_more_rounds_than_the_greatest(self):
        for bed, told, lying in self.beds:
            if isinstance(healing_of(bed), Heals):
                greatest = len(rounds_of(with_tiles(bed, ()), 20))
                for hole in holes_of(bed):
                    torn = with_tiles(bed, [pair for pair in bed.pairs() if pair[0] not in hole])
                    self.assertLessEqual(len(rounds_of(torn, 20)), greatest)

    def test_changed_papers(self):
        rng = random.Random(75)
        counts = {True: 0, False: 0}
        for bed, told, lying in self.beds:
            names = list(told) + ["nobody", None]
            for _ in range(12):
                lot = list(lying) + [(40, 40)]
                hole = tuple(rng.choice(lot) for _ in range(rng.randrange(4)))
                torn = bed.twin()
                torn.cut([place for place in hole if place != bed.seed_place])
                run = []
                while torn.may_come() and len(run) < 12 and rng.random() < 0.9:
                    run.append(rng.choice(torn.may_come()))
                    torn.come(*run[-1])
                if rng.random() < 0.2:
                    run.append((rng.choice(lot), rng.choice(names)))
                right = plain.is_scar(told, lying, bed.seed_place, hole, tuple(run))
                self.assertIs(is_scar(bed, Scar(hole, tuple(run))), right)
                counts[right] += 1
                seed_run = tuple(run)
                right = plain.is_healing(told, lying, bed.seed_place, seed_run)
                self.assertIs(is_healing(bed, Heals(seed_run)), right)
        self.assertTrue(all(many > 100 for many in counts.values()), counts)


if __name__ == "__main__":
    unittest.main()
