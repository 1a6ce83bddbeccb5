"""[73] and [74]: histories of worlds."""

import random
import unittest

import plain_healing
from helping import NO_PLACES, TilesTest
from plain_sweeps import COUNTER, EATER, made
from plain_worlds import PlainWorld
from test_worlds import random_deed
from tilesregrow.errors import BadNumber, BadPlace, Loose, NoName, NotKept, Taken, TooMany
from tilesregrow.judges import comes_back, first_wrong, pairs_behind, washed_back
from tilesregrow.worlds import World

JUDGES = (first_wrong, pairs_behind, comes_back, washed_back)

A, B = (("first", 0), 1, 0), (("first", 0), 0, 1)

WRONG = (("first", 1), 0, 0)

COME = ("come", (1, 0), A)

# Deeds of which each raises an error on the bed behind COME.
BAD_DEEDS = tuple(
    [("come", place, A) for place in NO_PLACES] + [("slip", place, "x") for place in NO_PLACES[:4]]
    + [("cut", (place,)) for place in NO_PLACES]), tuple(
    [("cut", ((0, 0),)), ("cut", ((1, 0), (0, 0))), ("cut", ((1, 0), None))]), tuple(
    [(word, (1, 0), name) for word in ("come", "slip") for name in ("nobody", None, 5, ("first", 0), (), [A], ((A, [1]),), 1.5)]), tuple(
    [(word, place, A) for word in ("come", "slip") for place in ((1, 0), (0, 0))]), tuple(
    [("come", place, name) for place, name in (((5, 5), A), ((0, 1), A), ((2, 0), A))])

ERRORS = ("place", "place", "name", "taken", "loose")

NO_HISTORIES = (
    None, 0, True, "wash", [], [("wash",)], {}, ("wash",), (("wash",), None), (["wash"],), ((),), (("wash", 1),),
    (("come",),), (("come", (1, 0)),), (("come", (1, 0), A, 1),), (("slip", (1, 0)),), (("slip", (1, 0), A, A),),
    (("cut",),), (("cut", [(1, 0)]),), (("cut", None),), (("cut", (1, 0), (1, 1)),), (("cut", "ab"),), (("grow", 5),),
    (("rounds", 1),), (("washed",),), ((None, (1, 0), A),), ((1, 2, 3),), (COME, ("Wash",)), (("cut", {}),),
    ((("wash",),),), (COME, COME, ["wash"]), (("", (1, 0), A),), (([], 1, 2),), (({}, 1),), (("wash", ()),), ("", ()))


def histories(rng, machine, many):
    """A history that can be done, and the plain world behind it."""
    world, plain = World(made(machine), 99), PlainWorld(machine)
    found = []
    for _ in range(many):
        word, *passed = random_deed(rng, world, plain, slips=rng.random() < 0.7)
        if word in ("grow", "rounds"):
            for _ in range(rng.randrange(12)):
                if world.bed.may_come():
                    found.append(("come", *rng.choice(world.bed.may_come())))
                    world.come(*found[-1][1:])
                    plain.do(*found[-1])
            continue
        if word == "cut":
            passed = [tuple(passed[0])]
        found.append((word, *passed))
        getattr(world, word)(*passed)
        plain.do(word, *passed)
    return tuple(found), plain


class HistoriesTest(TilesTest):
    def test_by_hand(self):
        sweeps = made(EATER)
        for history, pairs, back, washed in (
                ((), (((0, 0), (("first", 0), 0, 0)),), True, (0, 55)),
                ((COME,), (((0, 0), (("first", 0), 0, 0)), ((1, 0), A)), True, (0, 54)),
                ((COME, ("slip", (0, 1), WRONG)), (((0, 0), (("first", 0), 0, 0)), ((0, 1), WRONG), ((1, 0), A)),
                 False, (1, 54)),
                ((COME, ("slip", (0, 1), WRONG), ("wash",)), (((0, 0), (("first", 0), 0, 0)), ((1, 0), A)), True,
                 (0, 54)),
                ((COME, ("come", (0, 1), B), ("cut", ((1, 0), (1, 0), (9, 9)))),
                 (((0, 0), (("first", 0), 0, 0)), ((0, 1), B)), True, (0, 55))):
            self.assert_same(first_wrong(sweeps, 9, history), None)
            self.assert_same(pairs_behind(sweeps, 9, history), pairs)
            self.assert_same(comes_back(sweeps, 9, history), back)
            self.assert_same(washed_back(sweeps, 9, history), washed)
        self.assert_same(first_wrong(history=(COME, COME), most=9, sweeps=sweeps), (1, "taken"))
        for judge in JUDGES[1:]:
            self.assert_error(NotKept, ["deed", 1], judge, history=(COME, COME), most=9, sweeps=sweeps)

    def test_random_histories(self):
        rng = random.Random(201)
        backs = []
        for machine in plain_healing.some_machines(40, seed=201):
            for many in (0, 3, 8, 12):
                history, plain = histories(rng, machine, many)
                sweeps = made(machine)
                self.assert_same(first_wrong(sweeps, 99, history), None)
                self.assert_same(pairs_behind(sweeps, 99, history), plain.bed.pairs())
                backs.append(not plain.wrong())
                self.assert_same(comes_back(sweeps, 99, history), backs[-1])
                if backs[-1]:
                    alone = plain.bed.twin()
                    while alone.may_come():
                        alone.come(*rng.choice(alone.may_come()))
                    self.assertEqual(dict(alone.pairs()), plain.due)
                gone = plain.do("wash")
                left = max([time for _, time in plain_healing.times(machine, plain.labels, plain.lying())], default=0)
                self.assert_same(washed_back(sweeps, 99, history), (len(gone), left))
        self.assertGreater(min(backs.count(True), backs.count(False)), 20)

    def test_each_error_at_each_index(self):
        rng = random.Random(202)
        sweeps = made(EATER)
        for deeds, error in zip(BAD_DEEDS, ERRORS):
            for deed in deeds:
                # Behind the wrong deed anything may stand, also another wrong one.
                ahead = (COME,) + (("come", (0, 1), B), ("cut", ((0, 1),)), ("wash",)) * rng.randrange(3)
                history = (*ahead, deed, *rng.choice(((), (COME,), (("cut", ((0, 0),)), ("wash",)))))
                self.assert_same(first_wrong(sweeps, 9, history), (len(ahead), error))
                for judge in JUDGES[1:]:
                    self.assert_error(NotKept, ["deed", len(ahead)], judge, sweeps, 9, history)

    def test_errors_are_those_of_a_world(self):
        rng = random.Random(203)
        words = {"BadPlace": "place", "NoName": "name", "Taken": "taken", "Loose": "loose"}
        for machine in plain_healing.some_machines(20, seed=203):
            sweeps = made(machine)
            names = World(sweeps, 99).bed.tile_set.names()
            for _ in range(8):
                history, plain = histories(rng, machine, 6)
                for place in [(rng.randrange(-1, 6), rng.randrange(-1, 6)) for _ in range(3)]:
                    deed = (rng.choice(("come", "slip")), place, rng.choice((rng.choice(names), "x")))
                    word = None
                    try:
                        plain.bed.twin().come(*deed[1:]) if deed[0] == "come" else plain.bed.twin().slip(*deed[1:])
                    except (BadPlace, NoName, Taken, Loose) as error:
                        word = words[error.__class__.__name__]
                    self.assert_same(first_wrong(sweeps, 99, (*history, deed)), word and (len(history), word))

    def test_values_that_are_no_histories(self):
        sweeps = made(EATER)
        for history in NO_HISTORIES:
            for judge in JUDGES:
                self.assert_error(BadNumber, ["history", history], judge, sweeps, 9, history)
                if isinstance(history, tuple):
                    # A deed that cannot be done stands ahead.
                    self.assert_error(BadNumber, ["history", (COME, COME, *history, 5)], judge, sweeps, 9,
                                      (COME, COME, *history, 5))

    def test_errors_of_the_world_come_first(self):
        for judge in JUDGES:
            for history in ((), None, (COME, COME), [COME]):
                self.assert_error(BadNumber, ["most", 0], judge, made(EATER), 0, history)
                self.assert_error(TooMany, ["rows", 8, 7], judge, made(EATER), 7, history)
                self.assert_error(TooMany, ["rows", 21, 20], judge, made(COUNTER), 20, history)

    def test_what_stands_in_a_deed_is_looked_at_only_when_it_is_done(self):
        sweeps = made(EATER)
        history = (COME, COME, ("come", None, None), ("cut", (None, 5)), ("slip", [1], None))
        self.assert_same(first_wrong(sweeps, 9, history), (1, "taken"))
        self.assert_same(first_wrong(sweeps, 9, (COME, *history[2:])), (1, "place"))
        self.assert_same(first_wrong(sweeps, 9, (COME, *history[3:])), (1, "place"))


class FactsTest(TilesTest):
    def test_equal_pairs_have_equal_answers(self):
        rng = random.Random(204)
        for machine in plain_healing.some_machines(20, seed=204):
            sweeps = made(machine)
            history, plain = histories(rng, machine, 8)
            pairs = plain.bed.pairs()[1:]
            # The same tiles in another order, all by slips.
            other = tuple(("slip", *pair) for pair in rng.sample(pairs, len(pairs)))
            self.assertEqual(pairs_behind(sweeps, 99, other), pairs_behind(sweeps, 99, history))
            self.assertEqual(comes_back(sweeps, 99, other), comes_back(sweeps, 99, history))
            self.assertEqual(washed_back(sweeps, 99, other), washed_back(sweeps, 99, history))


if __name__ == "__main__":
    unittest.main()
