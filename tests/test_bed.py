"""[4], [7] and [8]: what a bed tells and what changes it."""

import random
import unittest

import plain
from helping import NO_PLACES, TilesTest
from tilesregrow.beds import NONE, Bed, Tile, TileSet
from tilesregrow.errors import BadPlace, Loose, NoName, Taken

P, Q, U, V = ("p", 2), ("q", 2), ("u", 1), ("v", 1)


def corner_set():
    """A seed s with a to its east and b to its north; c comes between these; f comes in the place of a."""
    return TileSet([
        Tile("s", NONE, NONE, P, Q),
        Tile("f", P, NONE, NONE, NONE),
        Tile("c", V, U, NONE, NONE),
        Tile("b", NONE, Q, V, NONE),
        Tile("a", P, NONE, NONE, U),
        Tile(4, ("none", 0), NONE, NONE, NONE)])


def corner_bed():
    return Bed(corner_set(), (0, 0), "s")


def whole_corner():
    bed = corner_bed()
    bed.come((1, 0), "a")
    bed.come((0, 1), "b")
    bed.come((1, 1), "c")
    return bed


def answers(bed, names, places):
    """All that a bed tells about some places."""
    return (bed.places(), bed.pairs(), bed.how_many(), bed.may_come(),
            [(bed.at(place), bed.fitting(place), bed.may_come_at(place)) for place in places],
            [bed.bonds(place, name) for place in places for name in names])


FIELD = [(x, y) for x in range(-3, 5) for y in range(-3, 5)]


def all_of(bed):
    return answers(bed, bed.tile_set.names(), FIELD)


class NewBedTest(TilesTest):
    def test_only_the_seed_lies(self):
        tile_set = corner_set()
        bed = Bed(seed_name="s", tile_set=tile_set, seed_place=(3, -2))
        self.assertIs(bed.tile_set, tile_set)
        self.assert_same(bed.seed_place, (3, -2))
        self.assert_same(bed.seed_name, "s")
        self.assert_same(bed.at((3, -2)), "s")
        self.assert_same(bed.at((0, 0)), None)
        self.assert_same(bed.places(), ((3, -2),))
        self.assert_same(bed.pairs(), (((3, -2), "s"),))
        self.assert_same(bed.how_many(), 1)
        self.assert_same(bed.may_come(), (((3, -1), "b"), ((4, -2), "a"), ((4, -2), "f")))

    def test_errors(self):
        tile_set = corner_set()
        for place in NO_PLACES:
            self.assert_error(BadPlace, [place], Bed, tile_set, place, "s")
            self.assert_error(BadPlace, [place], Bed, tile_set, place, "nobody")
        for name in ("nobody", None, ("s",), 5, "S"):
            self.assert_error(NoName, [name], Bed, tile_set, (0, 0), name)
        self.assert_error(NoName, ["s"], Bed, TileSet([]), (0, 0), "s")


class TellingTest(TilesTest):
    def test_a_whole_bed(self):
        bed = whole_corner()
        self.assert_same(bed.places(), ((0, 0), (0, 1), (1, 0), (1, 1)))
        self.assert_same(bed.pairs(), (((0, 0), "s"), ((0, 1), "b"), ((1, 0), "a"), ((1, 1), "c")))
        self.assert_same(bed.how_many(), 4)
        self.assert_same(bed.may_come(), ())
        self.assert_same(bed.at(place=(1, 1)), "c")
        self.assert_same(bed.at((2, 2)), None)

    def test_places_are_ascending_by_across_and_then_by_up(self):
        bed = corner_bed()
        for place in ((2, -1), (-1, 10), (-1, 9), (10, 0), (-2, 3), (2, -10)):
            bed.slip(place, 4)
        told = ((-2, 3), (-1, 9), (-1, 10), (0, 0), (2, -10), (2, -1), (10, 0))
        self.assert_same(bed.places(), told)
        self.assert_same(bed.pairs(), tuple((place, "s" if place == (0, 0) else 4) for place in told))

    def test_bonds(self):
        bed = whole_corner()
        for place, name, told in (
                ((1, 1), "c", 2), ((1, 0), "a", 3), ((0, 1), "b", 3), ((0, 0), "s", 4),
                ((1, 0), "f", 2), ((1, 1), "a", 0), ((1, 1), 4, 0), ((5, 5), "a", 0), ((0, 0), "a", 0), ((2, 0), "c", 0)):
            self.assert_same(bed.bonds(place, name), told)
        self.assert_same(bed.bonds(name="c", place=(1, 1)), 2)
        bed.cut([(1, 0)])
        self.assert_same(bed.bonds((1, 1), "c"), 1)
        self.assert_same(bed.bonds((1, 0), "a"), 3)

    def test_what_lies_at_the_place_counts_for_nothing(self):
        bed = whole_corner()
        before = [bed.bonds((1, 0), name) for name in bed.tile_set.names()]
        fitting = bed.fitting((1, 0))
        bed.cut([(1, 0)])
        self.assert_same([bed.bonds((1, 0), name) for name in bed.tile_set.names()], before)
        self.assert_same(bed.fitting((1, 0)), fitting)
        bed.slip((1, 0), "s")
        self.assert_same([bed.bonds((1, 0), name) for name in bed.tile_set.names()], before)
        self.assert_same(bed.fitting((1, 0)), fitting)

    def test_glues_of_strength_0_do_not_bond(self):
        zero = ("z", 0)
        bed = Bed(TileSet([Tile("s", zero, zero, zero, zero)]), (0, 0), "s")
        self.assert_same(bed.bonds((1, 0), "s"), 0)
        self.assert_same(bed.may_come(), ())

    def test_fitting_and_may_come_at(self):
        bed = corner_bed()
        self.assert_same(bed.fitting((1, 0)), ("a", "f"))
        self.assert_same(bed.fitting(place=(0, 1)), ("b",))
        self.assert_same(bed.fitting((1, 1)), ())
        self.assert_same(bed.fitting((0, 0)), ())
        self.assert_same(bed.may_come_at((1, 0)), ("a", "f"))
        self.assert_same(bed.may_come_at(place=(9, 9)), ())
        bed.come((1, 0), "f")
        self.assert_same(bed.fitting((1, 0)), ("a", "f"))
        self.assert_same(bed.may_come_at((1, 0)), ())
        self.assert_same(bed.fitting((0, 0)), ("s",))
        self.assert_same(bed.may_come_at((0, 0)), ())

    def test_two_weak_bonds_of_each_pair_of_sides_are_enough(self):
        for one in range(4):
            for two in range(4):
                if one == two:
                    continue
                glues = [NONE] * 4
                glues[one], glues[two] = ("w", 1), ("x", 1)
                around = []
                for side in (one, two):
                    met = [NONE] * 4
                    met[(side + 2) % 4] = glues[side]
                    around.append(Tile(("side", side), *met))
                bed = Bed(TileSet([Tile("t", *glues), Tile("s", NONE, NONE, NONE, NONE), *around]), (9, 9), "s")
                bed.slip(plain.around((0, 0))[one], ("side", one))
                self.assert_same(bed.may_come(), ())
                self.assert_same(bed.fitting((0, 0)), ())
                bed.slip(plain.around((0, 0))[two], ("side", two))
                self.assert_same(bed.may_come(), (((0, 0), "t"),))
                self.assert_same(bed.bonds((0, 0), "t"), 2)

    def test_bonds_of_all_four_sides_add_up(self):
        glue = ("all", 2)
        bed = Bed(TileSet([Tile("t", glue, glue, glue, glue)]), (0, 0), "t")
        for many, place in enumerate(((1, 1), (2, 0), (1, -1)), start=2):
            bed.slip(place, "t")
            self.assert_same(bed.bonds((1, 0), "t"), 2 * many)
        self.assert_same(bed.fitting((1, 0)), ("t",))

    def test_may_come_is_ascending_by_place_and_in_order_by_name(self):
        glue = ("all", 2)
        names = ("b", 10, 9, ("a",), "B", -1)
        bed = Bed(TileSet([Tile(name, glue, glue, glue, glue) for name in names]), (0, 0), "b")
        order = ("B", "b", ("a",), -1, 10, 9)
        self.assert_same(bed.fitting((0, 1)), order)
        self.assert_same(bed.may_come(), tuple(
            (place, name) for place in ((-1, 0), (0, -1), (0, 1), (1, 0)) for name in order))

    def test_no_places(self):
        bed = whole_corner()
        before = all_of(bed)
        for place in NO_PLACES:
            self.assert_error(BadPlace, [place], bed.at, place)
            self.assert_error(BadPlace, [place], bed.fitting, place)
            self.assert_error(BadPlace, [place], bed.may_come_at, place)
            self.assert_error(BadPlace, [place], bed.bonds, place, "s")
            self.assert_error(BadPlace, [place], bed.bonds, place, "nobody")
        for name in ("nobody", None, 5, ("s",)):
            self.assert_error(NoName, [name], bed.bonds, (1, 1), name)
        self.assertEqual(all_of(bed), before)

    def test_asking_changes_nothing(self):
        bed = corner_bed()
        before = all_of(bed)
        self.assertEqual(all_of(bed), before)


class ChangingTest(TilesTest):
    def test_come(self):
        bed = corner_bed()
        self.assertIsNone(bed.come((1, 0), "f"))
        self.assertIsNone(bed.come(name="b", place=(0, 1)))
        self.assert_same(bed.pairs(), (((0, 0), "s"), ((0, 1), "b"), ((1, 0), "f")))
        self.assert_same(bed.may_come(), ())

    def test_come_with_more_than_two(self):
        bed = whole_corner()
        bed.cut([(1, 0)])
        bed.come((1, 0), "a")
        self.assert_same(bed.how_many(), 4)

    def test_errors_of_come(self):
        bed = whole_corner()
        before = all_of(bed)
        for place in NO_PLACES:
            self.assert_error(BadPlace, [place], bed.come, place, "a")
            self.assert_error(BadPlace, [place], bed.come, place, "nobody")
        for name in ("nobody", None, ("a",), 5):
            self.assert_error(NoName, [name], bed.come, (1, 0), name)
            self.assert_error(NoName, [name], bed.come, (7, 7), name)
        for place in bed.places():
            self.assert_error(Taken, [place], bed.come, place, bed.at(place))
            self.assert_error(Taken, [place], bed.come, place, 4)
        self.assert_error(Loose, [(2, 0), 0], bed.come, (2, 0), "c")
        self.assert_error(Loose, [(-9, 3), 0], bed.come, (-9, 3), "a")
        self.assertEqual(all_of(bed), before)
        bed.cut([(1, 0), (1, 1)])
        before = all_of(bed)
        self.assert_error(Loose, [(1, 1), 1], bed.come, (1, 1), "c")
        self.assertEqual(all_of(bed), before)

    def test_slip(self):
        bed = corner_bed()
        self.assertIsNone(bed.slip((1, 1), "c"))
        self.assertIsNone(bed.slip(name="c", place=(-5, 6)))
        bed.slip((1, 0), "s")
        self.assert_same(bed.pairs(), (((-5, 6), "c"), ((0, 0), "s"), ((1, 0), "s"), ((1, 1), "c")))
        self.assert_same(bed.may_come(), (((0, 1), "b"), ((2, 0), "a"), ((2, 0), "f")))

    def test_errors_of_slip(self):
        bed = whole_corner()
        before = all_of(bed)
        for place in NO_PLACES:
            self.assert_error(BadPlace, [place], bed.slip, place, "a")
            self.assert_error(BadPlace, [place], bed.slip, place, "nobody")
        for name in ("nobody", None, 5):
            self.assert_error(NoName, [name], bed.slip, (1, 0), name)
            self.assert_error(NoName, [name], bed.slip, (7, 7), name)
        for place in bed.places():
            self.assert_error(Taken, [place], bed.slip, place, "a")
        self.assertEqual(all_of(bed), before)

    def test_cut(self):
        bed = whole_corner()
        self.assert_same(bed.cut([(1, 0), (5, 5), (1, 1), (1, 0)]), 2)
        self.assert_same(bed.pairs(), (((0, 0), "s"), ((0, 1), "b")))
        self.assert_same(bed.may_come(), (((1, 0), "a"), ((1, 0), "f")))
        self.assert_same(bed.cut(places=((1, 0), (1, 1))), 0)
        self.assert_same(bed.cut([]), 0)
        self.assert_same(bed.cut(()), 0)
        self.assert_same(bed.cut(((0, 1), (0, 1), (0, 1))), 1)
        self.assert_same(bed.pairs(), (((0, 0), "s"),))

    def test_cut_leaves_what_has_no_bonds_any_more(self):
        bed = whole_corner()
        bed.cut([(1, 0), (0, 1)])
        self.assert_same(bed.pairs(), (((0, 0), "s"), ((1, 1), "c")))

    def test_errors_of_cut(self):
        bed = whole_corner()
        before = all_of(bed)
        for place in NO_PLACES + ((0, 0),):
            self.assert_error(BadPlace, [place], bed.cut, [place])
            self.assert_error(BadPlace, [place], bed.cut, [(1, 0), (9, 9), place, (1, 1)])
            self.assert_error(BadPlace, [place], bed.cut, ((1, 1), place, None, (0, 0), [0, 0]))
            self.assertEqual(all_of(bed), before)
        self.assert_error(BadPlace, [(0, 0)], bed.cut, [(1, 0), (0, 0), (0, True)])
        self.assertEqual(all_of(bed), before)

    def test_the_passed_list_stays_as_it_was(self):
        bed = whole_corner()
        passed = [(1, 1), (1, 0), (1, 1), (8, 8)]
        bed.cut(passed)
        self.assert_same(passed, [(1, 1), (1, 0), (1, 1), (8, 8)])
        passed.append((0, 1))
        self.assert_same(bed.at((0, 1)), "b")

    def test_only_the_seed_stays_in_its_place_not_its_name(self):
        bed = corner_bed()
        bed.slip((4, 4), "s")
        self.assert_same(bed.cut([(4, 4)]), 1)


class TwinTest(TilesTest):
    def test_a_twin_tells_the_same(self):
        bed = whole_corner()
        bed.slip((-3, 3), 4)
        twin = bed.twin()
        self.assertIsInstance(twin, Bed)
        self.assertIsNot(twin, bed)
        self.assertIs(twin.tile_set, bed.tile_set)
        self.assert_same((twin.seed_place, twin.seed_name), ((0, 0), "s"))
        self.assertEqual(all_of(twin), all_of(bed))

    def test_each_changes_alone(self):
        bed = corner_bed()
        twin = bed.twin()
        before = all_of(bed)
        twin.come((1, 0), "a")
        twin.slip((3, 3), "c")
        self.assertEqual(all_of(bed), before)
        after = all_of(twin)
        bed.come((0, 1), "b")
        bed.slip((1, 0), "s")
        bed.cut([(0, 1)])
        self.assertEqual(all_of(twin), after)
        third = twin.twin()
        twin.cut([(1, 0), (3, 3)])
        self.assertEqual(all_of(third), after)
        self.assertEqual(all_of(twin), before)

    def test_a_twin_keeps_the_seed(self):
        twin = whole_corner().twin()
        self.assert_error(BadPlace, [(0, 0)], twin.cut, [(0, 0)])


def random_deed(rng, bed):
    """A coming, a slip or a cut near the seed, often one that can be done."""
    kind = rng.random()
    place = (rng.randrange(-3, 4), rng.randrange(-3, 4))
    if kind < 0.6 and bed.may_come():
        return ("come", *rng.choice(bed.may_come()))
    if kind < 0.8 and bed.at(place) is None:
        return ("slip", place, rng.choice(bed.tile_set.names()))
    lot = [other for other in bed.places() + (place, place) if other != bed.seed_place]
    return ("cut", rng.sample(lot, min(len(lot), rng.randrange(4))))


def do(bed, deed):
    return getattr(bed, deed[0])(*deed[1:])


def random_histories(many, seed):
    """Beds with random sets, behind many deeds; each time the bed, its glues and its plain bed."""
    rng = random.Random(seed)
    for _ in range(many):
        tile_set = plain.random_set(rng, rng.randrange(2, 7), ("x", "y"))
        bed = plain.seeded(tile_set)
        lying = dict(bed.pairs())
        for _ in range(25):
            deed = random_deed(rng, bed)
            result = do(bed, deed)
            if deed[0] == "cut":
                gone = [place for place in set(deed[1]) if lying.pop(place, None) is not None]
                assert result == len(gone)
            else:
                lying[deed[1]] = deed[2]
        yield bed, plain.glues(tile_set), lying


class AllAnswersTest(TilesTest):
    def test_beds_behind_many_deeds_tell_what_the_document_says(self):
        for bed, told, lying in random_histories(40, 7):
            self.assert_same(bed.pairs(), tuple(sorted(lying.items())))
            self.assert_same(bed.places(), tuple(sorted(lying)))
            self.assert_same(bed.how_many(), len(lying))
            self.assert_same(bed.may_come(), tuple(plain.may_come(told, lying)))
            for place in FIELD:
                self.assert_same(bed.at(place), lying.get(place))
                fitting = tuple(plain.fitting(told, lying, place))
                self.assert_same(bed.fitting(place), fitting)
                self.assert_same(bed.may_come_at(place), () if place in lying else fitting)
                for name in told:
                    self.assert_same(bed.bonds(place, name), plain.bonds(told, lying, place, name))

    def test_come_takes_just_what_may_come(self):
        for bed, told, lying in random_histories(15, 8):
            for place in FIELD:
                for name in told:
                    bonds = plain.bonds(told, lying, place, name)
                    twin = bed.twin()
                    if place in lying:
                        self.assert_error(Taken, [place], twin.come, place, name)
                    elif bonds < 2:
                        self.assert_error(Loose, [place, bonds], twin.come, place, name)
                    else:
                        twin.come(place, name)
                        self.assert_same(twin.at(place), name)
                        self.assert_same(twin.how_many(), len(lying) + 1)


class FactsTest(TilesTest):
    def test_what_may_come_may_still_come_behind_comings_and_slips_elsewhere(self):
        rng = random.Random(3)
        for bed, told, _ in random_histories(30, 9):
            for place, name in bed.may_come():
                twin = bed.twin()
                for _ in range(4):
                    others = [pair for pair in twin.may_come() if pair[0] != place]
                    if others:
                        twin.come(*rng.choice(others))
                    free = [other for other in FIELD if other != place and twin.at(other) is None]
                    twin.slip(rng.choice(free), rng.choice(list(told)))
                self.assertIn((place, name), twin.may_come())

    def test_two_pairs_come_in_both_orders(self):
        many = 0
        for bed, _, _ in random_histories(30, 10):
            for one in bed.may_come():
                for two in bed.may_come():
                    if one[0] < two[0]:
                        first, second = bed.twin(), bed.twin()
                        first.come(*one)
                        first.come(*two)
                        second.come(*two)
                        second.come(*one)
                        self.assertEqual(all_of(first), all_of(second))
                        many += 1
        self.assertGreater(many, 100)

    def test_beds_with_the_same_tiles_tell_the_same_whichever_deeds_made_them(self):
        for bed, _, _ in random_histories(30, 11):
            other = Bed(bed.tile_set, bed.seed_place, bed.seed_name)
            for place, name in reversed(bed.pairs()):
                if place != bed.seed_place:
                    other.slip(place, name)
            other.slip((9, 9), bed.seed_name)
            other.cut([(9, 9)])
            self.assertEqual(all_of(other), all_of(bed))


if __name__ == "__main__":
    unittest.main()
