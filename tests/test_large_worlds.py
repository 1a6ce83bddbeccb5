"""[75] and [85]: beds, histories and desks as large as the document lets callers have."""

import random
import unittest

from helping import TilesTest
from tilesregrow.desk import Desk
from tilesregrow.errors import BadText, NotKept
from tilesregrow.healing import rounds_left
from tilesregrow.judges import comes_back, first_wrong, pairs_behind, washed_back
from tilesregrow.shapes import square
from tilesregrow.story import Story, drawn, told
from tilesregrow.valves import Grid
from tilesregrow.worlds import GridWorld, World


class LargeWorldsTest(TilesTest):
    def test_a_world_of_twenty_thousand_tiles(self):
        rng = random.Random(231)
        world = World(square(70), 70)
        self.assertEqual(world.picture.many, 19600)
        left = rounds_left(world.picture, world.bed)
        self.assert_same((world.rounds(left - 1), world.is_whole()), (left - 1, False))
        self.assert_same((world.rounds(5), world.is_whole()), (1, True))
        self.assertEqual(world.rows()[-1], ("0",) * 6 + ("x",) * 64)
        self.assert_same(world.cut([(x, y) for x in range(20, 120) for y in range(100)]), 10000)
        for _ in range(200):
            place = (rng.randrange(20, 120), rng.randrange(100))
            if world.bed.at(place) is None:
                world.slip(place, rng.choice(world.bed.tile_set.names()))
        self.assertNotEqual(world.wrong(), ())
        world.wash()
        self.assert_same(world.wrong(), ())
        lacking = len(world.lacking())
        self.assert_same((world.grow(10 ** 6), world.is_whole()), (lacking, True))

    def test_a_large_grid_world(self):
        rng = random.Random(232)
        rule = {(state, letter): ((state + letter) % 3, (state * letter + 1) % 3)
                for state in range(3) for letter in range(3)}
        for k, size in ((2, 5), (4, 3)):
            world = GridWorld(Grid((0, 1, 2, 0, 1)[:size], (2, 1, 0, 1, 2)[:size], rule), k)
            world.grow(10 ** 6)
            self.assert_same(world.is_whole(), True)
            for _ in range(30):
                place = (rng.randrange(4 * k * size), rng.randrange(4 * k * size))
                name = world.bed.at(place)
                if name is not None:
                    world.cut([place])
                    world.slip(place, name)
            self.assertEqual(sum(world.slips.values()) > 5, True)
            self.assert_same(world.is_whole(), True)
            world.cut([place for place in world.bed.places() if min(place) >= 0 and rng.random() < 0.5])
            world.wash()
            self.assert_same((world.rounds(10 ** 6) > 0, world.is_whole()), (True, True))


class LargeHistoriesTest(TilesTest):
    def history(self, rng, sweeps, many, washes):
        world = World(sweeps, 70)
        found = []
        while len(found) < many:
            kind = rng.random()
            if kind < 0.9 or len(found) < many // 2:
                deed = ("come", *world.bed.first_pair())
            elif kind < 0.94:
                place = (rng.randrange(140), rng.randrange(20))
                deed = ("slip", place, world.picture.due(place) or world.bed.seed_name)
                if world.bed.at(place) is not None:
                    continue
            elif kind < 0.94 + washes:
                deed = ("wash",)
            else:
                places = world.bed.places()
                deed = ("cut", tuple(place for place in rng.sample(places, min(20, len(places))) if place != (0, 0)))
            getattr(world, deed[0])(*deed[1:])
            found.append(deed)
        return tuple(found), world

    def test_two_thousand_deeds(self):
        rng = random.Random(233)
        sweeps = square(70)
        for washes in (0, 0.03):
            history, world = self.history(rng, sweeps, 2000, washes)
            self.assert_same(first_wrong(sweeps, 70, history), None)
            self.assert_same(pairs_behind(sweeps, 70, history), world.bed.pairs())
            self.assert_same(comes_back(sweeps, 70, history), world.wrong() == ())
            went, rounds = washed_back(sweeps, 70, history)
            self.assert_same((len(world.wash()), world.rounds(10 ** 6), world.is_whole()), (went, rounds, True))
            wrong = (*history, ("come", (0, 0), world.bed.seed_name))
            self.assert_same(first_wrong(sweeps, 70, wrong), (2000, "taken"))
            self.assert_error(NotKept, ["deed", 2000], washed_back, sweeps, 70, wrong)

    def test_many_washes(self):
        sweeps = square(40)
        world = World(sweeps, 40)
        history = []
        for _ in range(1000):
            history.append(("come", *world.bed.first_pair()))
            world.come(*history[-1][1:])
        history += [("wash",)] * 1000
        went = len(world.wash())
        self.assertEqual(washed_back(sweeps, 40, tuple(history)), (0, rounds_left(world.picture, world.bed)))
        self.assertEqual(len(pairs_behind(sweeps, 40, tuple(history))), 1001 - went)


# Sixty lines with its deeds; about four thousand tiles.
PROGRAM = """registers a b c
colours white red blue green
at more
ifzero a out
dec a
inc b
add c b
paint red
jump more
at out
paint green
"""


def item(number, deeds):
    return f"world w{number}\nvalues 15,{number},0\n{PROGRAM}bed\n" + "\n".join(deeds) + "\n"


class LargeDesksTest(TilesTest):
    def deeds(self, rng):
        found = ["grow 999999"]
        while len(found) < 46:
            found.append(rng.choice((
                f"cut {rng.randrange(10)} {rng.randrange(180)} 20 20", f"cell {rng.randrange(8)} {rng.randrange(90)}",
                f"grow {rng.randrange(200)}", f"rounds {rng.randrange(60)}", "wash")))
        return found

    def test_eight_items_and_ten_promises(self):
        rng = random.Random(234)
        text = "".join(item(number, [*self.deeds(rng), "grow 999999"]) for number in range(8))
        desk = Desk(text)
        self.assertEqual(desk.lines(), text)
        self.assertEqual({len(desk.get_story(name).text.split("\n")) for name in desk.item_names()}, {61})
        world = desk.get_world("w3")
        self.assertGreater(world.picture.many, 3000)
        self.assertLess(world.picture.many, 5000)
        last = (len(world.picture.labels) - 2) // 2
        total = sum(3 + turn for turn in range(1, 16))
        for promise in ("w0 right", "w1 whole", "w2 lacks 0", f"w3 tells {last} 0,18,{total}", "w4 heals 0",
                        "w5 like w5", "w6 whole", "w7 right", "w0 lacks 400", "w1 heals 400"):
            desk.keep(promise)
        self.assert_same(desk.broken(), ())
        for number in range(8):
            desk.add(f"w{number}", f"cell {number % 4} {10 + number}\nrounds 30")
        for promise, name, line in (("w1 whole", "w1", "cell 1 30"), ("w6 whole", "w6", "slip -7 -7 5")):
            self.assert_error(NotKept, [promise, None], desk.add, name, line)
        for _ in range(8):
            desk.undo()
        self.assertEqual(desk.lines(), text)
        for _ in range(8):
            desk.redo()

        def action(held):
            for name in ("w1", "w4", "w6", "w7"):
                held.add(name, "cell 2 2")
            # A wash takes all that is made behind the hole, so that it heals late.
            self.assertEqual([promise for promise, _ in held.broken()],
                             ["w1 whole", "w4 heals 0", "w6 whole", "w1 heals 400"])
            for name in ("w1", "w4", "w6", "w7"):
                held.add(name, "rounds 9")

        desk.attempt(action)
        self.assert_same(desk.broken(), ())
        self.assert_error(BadText, [65, 1], desk.add, "w7", "x")

    def test_many_edits_of_one_item(self):
        desk = Desk(item(0, ["grow 999999"]))
        desk.keep("w0 right")
        for number in range(60):
            desk.edit("w0", 14, f"grow {number * 30}")
        for _ in range(60):
            desk.undo()
        self.assertEqual(desk.get_story("w0").deeds, (("grow", 999999),))

    def test_a_long_story(self):
        rng = random.Random(235)
        story = Story("\n".join(item(5, self.deeds(rng)).split("\n")[1:]))
        self.assertEqual((len(told(story)), told(story)[0][:5]), (46, "came "))
        self.assertEqual(len(drawn(Desk(item(5, ["grow 999999"])).get_world("w5"))), 2 * (15 * 6 + 2) + 2)


if __name__ == "__main__":
    unittest.main()
