"""[13] and [14]: the papers of others are judged."""

import random
import unittest

import plain
from helping import TilesTest
from test_bed import all_of, corner_bed, whole_corner
from test_ends import GRID_RUN, GRID_WITHOUT, walled_chain, walled_grid
from test_rounds import rival_bed
from tilesregrow.beds import NONE, Bed, Tile, TileSet
from tilesregrow.ends import OneEnd, Parting, ends_of, is_one_end, is_parting

A, F, B, C = ((1, 0), "a"), ((1, 0), "f"), ((0, 1), "b"), ((1, 1), "c")

RIVAL, Z = ((1, 1), "rival", GRID_WITHOUT), ((1, 1), "z", GRID_WITHOUT)


class PartingTest(TilesTest):
    def assert_judged(self, bed, one, two, told):
        before = all_of(bed)
        self.assertIs(is_parting(bed, Parting(one, two)), told)
        self.assertIs(is_parting(bed, Parting(two, one)), told)
        self.assertEqual(all_of(bed), before)

    def test_right_ones(self):
        for one in ((A,), (B, A)):
            for two in ((F,), (B, F)):
                self.assert_judged(corner_bed(), one, two, True)
        bed = rival_bed()
        self.assert_judged(bed, (((1, 0), "b"), ((2, 0), -1)), (((1, 0), "b"), ((2, 0), 1)), True)
        self.assert_judged(bed, (((1, 0), "b"), ((2, 0), -1)), (((1, 0), ("z",)), ((2, 0), "b")), True)
        self.assertIs(is_parting(paper=Parting((A,), (F,)), bed=corner_bed()), True)

    def test_empty_runs(self):
        self.assert_judged(corner_bed(), (), (A,), False)
        self.assert_judged(corner_bed(), (), (), False)

    def test_last_pairs_of_unlike_places_or_like_names(self):
        self.assert_judged(corner_bed(), (A,), (B,), False)
        self.assert_judged(corner_bed(), (A,), (A,), False)
        self.assert_judged(corner_bed(), (A,), (B, A), False)
        self.assert_judged(corner_bed(), (A, B), (F, B), False)
        self.assert_judged(corner_bed(), (A,), (F, B), False)

    def test_what_is_no_run(self):
        for run in ((A, F), (B, A, F), (C, F), (((5, 5), "a"), F), (((0, 0), "s"), F), (F, F), (B, B, F),
                    (((2, 0), "a"), F)):
            self.assert_judged(corner_bed(), (A,), run, False)
        for name in ("nobody", None, 7, ("a",), "b", "s", "c", 4):
            self.assert_judged(corner_bed(), (A,), (((1, 0), name),), False)
            self.assert_judged(corner_bed(), (A,), (((9, 9), name), F), False)

    def test_where_nothing_parts(self):
        self.assert_judged(whole_corner(), (A,), (F,), False)
        bed = corner_bed()
        bed.come((1, 0), "f")
        self.assert_judged(bed, (A,), (F,), False)
        self.assert_judged(bed, (B,), (((0, 1), "nobody"),), False)


class OneEndTest(TilesTest):
    def assert_judged(self, bed, comings, walls, told):
        before = all_of(bed)
        self.assertIs(is_one_end(bed, OneEnd(comings, walls)), told)
        self.assertEqual(all_of(bed), before)

    def assert_walls(self, without, told):
        """The one rival has this lot, the other one a right wall."""
        self.assert_judged(walled_grid(), GRID_RUN, (Z, ((1, 1), "rival", without)), told)

    def test_right_ones(self):
        self.assert_judged(walled_grid(), GRID_RUN, (RIVAL, Z), True)
        self.assert_judged(walled_grid(), GRID_RUN, (Z, RIVAL), True)
        self.assert_judged(walled_grid(), GRID_RUN, (Z, Z, RIVAL, RIVAL), True)
        self.assert_judged(whole_corner(), (), (), True)
        self.assert_judged(Bed(plain.grid_set(3, 3), (0, 0), (0, 0)), GRID_RUN, (), True)
        self.assertIs(is_one_end(paper=OneEnd(GRID_RUN, (RIVAL, Z)), bed=walled_grid()), True)

    def test_a_wall_less(self):
        self.assert_judged(walled_grid(), GRID_RUN, (RIVAL,), False)
        self.assert_judged(walled_grid(), GRID_RUN, (Z,), False)
        self.assert_judged(walled_grid(), GRID_RUN, (), False)

    def test_triples_that_do_no_harm(self):
        for triple in (((1, 1), "rival", ()), ((1, 1), "rival", ((1, 1),)), ((1, 1), "nobody", ((50, 50),)),
                       ((9, 9), "z", GRID_WITHOUT), ((0, 0), None, ()), ((2, 2), (2, 2), GRID_WITHOUT),
                       ((1, 1), (1, 1), GRID_WITHOUT), ((1, 1), "half", GRID_WITHOUT)):
            self.assert_judged(walled_grid(), GRID_RUN, (triple, RIVAL, Z), True)
            self.assert_judged(walled_grid(), GRID_RUN, (RIVAL, Z, triple), True)
            self.assert_judged(walled_grid(), GRID_RUN, (triple, Z), False)

    def test_a_place_less(self):
        for place in GRID_WITHOUT:
            self.assert_walls(tuple(other for other in GRID_WITHOUT if other != place), False)
        self.assert_walls((), False)

    def test_a_place_more(self):
        # One of the two tiles that the rival sticks to is not enough for it, and leads nowhere; (2, 2) leads to both.
        self.assert_walls(GRID_WITHOUT + ((1, 2),), True)
        self.assert_walls(GRID_WITHOUT + ((2, 1),), True)
        self.assert_walls(GRID_WITHOUT + ((2, 2),), False)
        self.assert_walls(GRID_WITHOUT + ((1, 2), (2, 2)), False)
        self.assert_walls(GRID_WITHOUT + ((1, 2), (2, 1)), False)
        self.assert_walls(GRID_WITHOUT + ((1, 2), (2, 1), (2, 2)), False)

    def test_its_own_place_or_places_that_the_end_does_not_have(self):
        self.assert_walls(GRID_WITHOUT + ((1, 1),), False)
        for place in ((3, 0), (-1, 0), (9, 9), (0, -1)):
            self.assert_walls(GRID_WITHOUT + (place,), False)

    def test_places_twice_and_in_another_order(self):
        self.assert_walls(GRID_WITHOUT[::-1], True)
        self.assert_walls(GRID_WITHOUT * 3, True)
        self.assert_walls(GRID_WITHOUT[2:] + GRID_WITHOUT[:3], True)

    def test_another_tile_or_place(self):
        for triple in (((1, 1), "nobody", GRID_WITHOUT), ((1, 1), None, GRID_WITHOUT), ((1, 1), (1, 1), GRID_WITHOUT),
                       ((1, 1), "half", GRID_WITHOUT), ((1, 2), "rival", GRID_WITHOUT), ((0, 0), "rival", GRID_WITHOUT)):
            self.assert_judged(walled_grid(), GRID_RUN, (Z, triple), False)

    def test_places_that_the_bed_has_from_the_beginning(self):
        bed = walled_grid()
        bed.slip((6, 6), "half")
        self.assert_judged(bed, GRID_RUN, (RIVAL, Z), False)
        with_half = tuple((place, name, without + ((6, 6),)) for place, name, without in (RIVAL, Z))
        self.assert_judged(bed, GRID_RUN, with_half, True)

    def test_a_coming_less(self):
        for index in range(len(GRID_RUN)):
            self.assert_judged(walled_grid(), GRID_RUN[:index] + GRID_RUN[index + 1:], (RIVAL, Z), False)
        self.assert_judged(walled_grid(), (), (), False)
        self.assert_judged(walled_grid(), (), (RIVAL, Z), False)

    def test_a_coming_more(self):
        self.assert_judged(walled_grid(), GRID_RUN + (((3, 3), "z"),), (RIVAL, Z), False)
        self.assert_judged(walled_grid(), GRID_RUN + GRID_RUN[-1:], (RIVAL, Z), False)
        self.assert_judged(walled_grid(), (((0, 0), (0, 0)),) + GRID_RUN, (RIVAL, Z), False)
        self.assert_judged(whole_corner(), (A,), (), False)

    def test_comings_in_another_order(self):
        other = tuple(((x, y), (x, y)) for y in range(3) for x in range(3) if (x, y) != (0, 0))
        self.assert_judged(walled_grid(), other, (RIVAL, Z), True)
        self.assert_judged(walled_grid(), GRID_RUN[::-1], (RIVAL, Z), False)
        told, lying = plain.glues(walled_grid().tile_set), {(0, 0): (0, 0)}
        kinds = set()
        for index in range(len(GRID_RUN) - 1):
            swapped = GRID_RUN[:index] + (GRID_RUN[index + 1], GRID_RUN[index]) + GRID_RUN[index + 2:]
            kinds.add(plain.behind(told, lying, swapped) is not None)
            self.assert_judged(walled_grid(), swapped, (RIVAL, Z), plain.behind(told, lying, swapped) is not None)
        self.assertEqual(kinds, {True, False})

    def test_another_tile_among_the_comings(self):
        for index in range(len(GRID_RUN)):
            for name in ("nobody", None, "z", (9, 9)):
                changed = GRID_RUN[:index] + ((GRID_RUN[index][0], name),) + GRID_RUN[index + 1:]
                self.assert_judged(walled_grid(), changed, (RIVAL, Z), False)

    def test_beds_that_part(self):
        bed = corner_bed()
        for run in ((A, B, C), (F, B)):
            end = dict(bed.pairs())
            end.update(run)
            for lot in ((), ((0, 0),), ((0, 0), (0, 1)), tuple(sorted(end))):
                for name in ("a", "f"):
                    self.assert_judged(bed, run, (((1, 0), name, lot),), False)

    def test_a_rival_of_a_bond_with_the_bed_has_no_wall(self):
        bed = walled_chain()
        bed.slip((2, 0), ("row", 2))
        paper = ends_of(walled_chain(), 5)
        self.assert_judged(bed, (((1, 0), ("row", 1)), ((3, 0), ("row", 3)), ((4, 0), ("row", 4))), paper.walls, False)

    def test_only_places_of_comings_have_rivals(self):
        bed = walled_chain()
        bed.come((1, 0), ("row", 1))
        comings = tuple(((x, 0), ("row", x)) for x in range(2, 5))
        self.assert_judged(bed, comings, (((3, 0), ("rival", 3), ((0, 0), (1, 0), (2, 0))),), True)


def changed_tuple(rng, items, others):
    """A tuple with an item less, one more, one twice, two exchanged, or one of the others."""
    items = list(items)
    kind = rng.randrange(5)
    if kind == 0 and items:
        items.pop(rng.randrange(len(items)))
    elif kind == 1 and items:
        items.insert(rng.randrange(len(items) + 1), rng.choice(items))
    elif kind == 2 and len(items) > 1:
        one, two = rng.sample(range(len(items)), 2)
        items[one], items[two] = items[two], items[one]
    elif kind == 3 and items:
        items[rng.randrange(len(items))] = rng.choice(others)
    elif kind == 4:
        items.insert(rng.randrange(len(items) + 1), rng.choice(others))
    return tuple(items)


def places_near(lying):
    return sorted(lying) + [(0, 0), (1, 1), (-1, 0), (7, 7)]


def changed_walls(rng, walls, names, places):
    """The walls, of which one or all are changed."""
    walls = list(walls)
    if not walls or rng.random() < 0.2:
        return changed_tuple(rng, walls, [(rng.choice(places), rng.choice(names), tuple(places))])
    index = rng.randrange(len(walls))
    place, name, without = walls[index]
    kind = rng.randrange(6)
    if kind == 0:
        name = rng.choice(names)
    elif kind == 1:
        place = rng.choice(places)
    elif kind == 2:
        without = without + (place,)
    else:
        without = changed_tuple(rng, without, places)
    walls[index] = (place, name, without)
    return tuple(walls)


class ChangedPapersTest(TilesTest):
    """Right papers that are changed in one place each are judged as the document tells."""

    def test_one_end(self):
        rng = random.Random(61)
        counts = {True: 0, False: 0}
        beds = [entry for entry in plain.random_beds(900, 12, 62) if len(entry[1]) > 3]
        for bed, told, lying in beds:
            paper = ends_of(bed, 12)
            if not isinstance(paper, OneEnd) or not paper.comings or (not paper.walls and rng.random() < 0.9):
                continue
            end = plain.behind(told, lying, paper.comings)
            names = list(told) + ["nobody", None]
            pairs = [(place, rng.choice(names)) for place in places_near(end)]
            for _ in range(30):
                comings, walls = paper.comings, paper.walls
                if rng.random() < 0.3:
                    comings = changed_tuple(rng, comings, pairs)
                else:
                    walls = changed_walls(rng, walls, names, places_near(end))
                right = plain.is_one_end(told, lying, comings, walls)
                self.assertIs(is_one_end(bed, OneEnd(comings, walls)), right)
                counts[right] += 1
        self.assertTrue(all(many > 200 for many in counts.values()), counts)

    def test_parting(self):
        rng = random.Random(63)
        counts = {True: 0, False: 0}
        for bed, told, lying in plain.random_beds(250, 12, 64):
            paper = ends_of(bed, 12)
            if not isinstance(paper, Parting):
                continue
            names = list(told) + ["nobody", None]
            for _ in range(20):
                one, two = paper.one, paper.two
                pairs = [(place, rng.choice(names)) for place in places_near(lying)]
                if rng.random() < 0.5:
                    one = changed_tuple(rng, one, pairs + list(two))
                else:
                    two = changed_tuple(rng, two, pairs + list(one))
                right = plain.is_parting(told, lying, one, two)
                self.assertIs(is_parting(bed, Parting(one, two)), right)
                counts[right] += 1
        self.assertTrue(all(many > 50 for many in counts.values()), counts)


class SurePapersTest(TilesTest):
    def test_a_right_paper_tells_the_one_end(self):
        """[14]: whatever run a right paper has, the bed behind it is the end."""
        rng = random.Random(65)
        for bed, told, lying in plain.random_beds(200, 12, 66):
            paper = ends_of(bed, 12)
            if isinstance(paper, OneEnd):
                run = []
                grown = bed.twin()
                while grown.may_come():
                    run.append(rng.choice(grown.may_come()))
                    grown.come(*run[-1])
                self.assertIs(is_one_end(bed, OneEnd(tuple(run), paper.walls)), True)
                self.assertEqual(grown.pairs(), tuple(sorted(plain.behind(told, lying, paper.comings).items())))

    def test_a_tile_that_fits_to_itself(self):
        glue = ("g", 2)
        bed = Bed(TileSet([Tile("s", NONE, NONE, glue, NONE), Tile("t", glue, NONE, NONE, NONE)]), (0, 0), "s")
        self.assertIs(is_one_end(bed, OneEnd((((1, 0), "t"),), ())), True)
        self.assertIs(is_parting(bed, Parting((((1, 0), "t"),), (((1, 0), "s"),))), False)


if __name__ == "__main__":
    unittest.main()
