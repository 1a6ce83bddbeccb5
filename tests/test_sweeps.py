"""[18], [19] and [20]: machines of sweeps, their letters, their states and their rows."""

import copy
import random
import unittest

import plain_sweeps as plain
from helping import TilesTest
from plain_sweeps import COUNTER, EATER, made
from tilesregrow.errors import BadName, BadNumber, BadTile, TooMany
from tilesregrow.sweeps import Sweeps, letters_of, run, states_of

NO_DATA = (True, False, 1.0, b"a", ["a"], ("a", ["b"]), ("a", True), (("a", (1.5,)),), frozenset(), object())

STEPS, TURNS = EATER[2], EATER[3]


def with_item(table, key, value):
    return {**table, key: value}


class CreatingTest(TilesTest):
    def test_attributes_are_equal_to_what_was_passed(self):
        for machine in (COUNTER, EATER, *plain.random_machines(200)):
            sweeps = Sweeps(*machine)
            self.assert_same(sweeps.first, machine[0])
            self.assert_same(sweeps.begin, machine[1])
            self.assert_same(sweeps.steps, machine[2])
            self.assert_same(sweeps.turns, machine[3])

    def test_by_names(self):
        sweeps = Sweeps(turns=TURNS, steps=STEPS, begin="look", first=("a", "b", "c"))
        self.assert_same(sweeps.first, ("a", "b", "c"))
        self.assert_same(run(most=8, sweeps=sweeps)[-1], ("x", "x", "x"))

    def test_the_dicts_are_its_own_and_what_is_passed_stays(self):
        steps, turns = dict(STEPS), dict(TURNS)
        sweeps = Sweeps(("a", "b"), "look", steps, turns)
        self.assertEqual((steps, turns), (STEPS, TURNS))
        steps.clear()
        turns[("l", "look")] = ("go", None)
        self.assertEqual(sweeps.steps, STEPS)
        self.assertEqual(sweeps.turns, TURNS)
        self.assertEqual(run(sweeps, 10)[-1], ("x", "x"))

    def test_items_that_mean_nothing_are_kept(self):
        steps = {**STEPS, ("l", "never", "a"): ("nowhere", "z"), ("r", "go", "z"): ("strange", "y"),
                 ("r", ("look",), 5): (0, (None,))}
        turns = {**TURNS, ("r", "look"): ("never", "w"), ("l", "never"): None, ("l", 7): ((), None)}
        sweeps = Sweeps(("a", "b", "c"), "look", steps, turns)
        self.assertEqual(sweeps.steps, steps)
        self.assertEqual(sweeps.turns, turns)
        self.assert_same(letters_of(sweeps), ("a", "b", "c", "x"))
        self.assert_same(states_of(sweeps, "l"), ("look", "seen"))
        self.assert_same(states_of(sweeps, "r"), ("go",))
        self.assertEqual(run(sweeps, 10), run(made(EATER), 10))

    def test_a_machine_that_ends_with_row_1(self):
        sweeps = Sweeps((1, 1), 0, {("l", 0, 1): (0, 1)}, {("l", 0): None})
        self.assert_same(letters_of(sweeps), (1,))
        self.assert_same(states_of(sweeps, "r"), ())
        self.assert_same(run(sweeps, 2), ((1, 1), (1, 1)))


class ErrorsTest(TilesTest):
    def assert_bad(self, tile, *passed):
        self.assert_error(BadTile, [tile], Sweeps, *passed)

    def test_first(self):
        for first in (None, 0, "ab", ["a", "b"], (), ("a",), ("a", None), (None, "a", "b"), {"a": 1, "b": 2},
                      *[("a", letter) for letter in NO_DATA], *[(letter, "a", "b") for letter in NO_DATA]):
            self.assert_bad(first, first, "look", STEPS, TURNS)

    def test_begin(self):
        for begin in (None, *NO_DATA):
            self.assert_bad(begin, ("a", "b"), begin, STEPS, TURNS)

    def test_steps_that_are_no_dict(self):
        for steps in (None, [], (), list(STEPS.items()), "steps", 0):
            self.assert_bad(steps, ("a", "b"), "look", steps, TURNS)

    def test_turns_that_are_no_dict(self):
        for turns in (None, [], (), list(TURNS.items()), "turns", 0):
            self.assert_bad(turns, ("a", "b"), "look", STEPS, turns)

    def test_a_key_of_a_step(self):
        hashable = [value for value in NO_DATA if not isinstance(value, list) and value != ("a", ["b"])]
        keys = [None, 0, "lab", (), ("l", "look"), ("l", "look", "a", "a"), ("L", "look", "a"), (None, "look", "a"),
                ("", "look", "a"), ("lr", "look", "a"), (0, "look", "a"), (("l",), "look", "a"), ("l", None, "a"),
                ("l", "look", None)]
        keys += [("l", value, "a") for value in hashable] + [("r", "go", value) for value in hashable]
        for key in keys:
            steps = with_item(STEPS, key, ("look", "a"))
            self.assert_bad(steps, ("a", "b"), "look", steps, TURNS)

    def test_a_value_of_a_step(self):
        values = [None, 0, "ab", (), ("look",), ("look", "a", "a"), ["look", "a"], (None, "a"), ("look", None)]
        values += [(value, "a") for value in NO_DATA] + [("look", value) for value in NO_DATA]
        for value in values:
            for key in (("l", "look", "a"), ("r", "never", "z")):
                steps = with_item(STEPS, key, value)
                self.assert_bad(steps, ("a", "b"), "look", steps, TURNS)

    def test_a_key_of_a_turn(self):
        hashable = [value for value in NO_DATA if not isinstance(value, list) and value != ("a", ["b"])]
        keys = [None, 0, "lo", (), ("l",), ("l", "look", "a"), ("L", "look"), (None, "look"), (1, "look"), ("l", None)]
        keys += [("r", value) for value in hashable]
        for key in keys:
            for value in (None, ("look", None)):
                turns = with_item(TURNS, key, value)
                self.assert_bad(turns, ("a", "b"), "look", STEPS, turns)

    def test_a_value_of_a_turn(self):
        values = [0, False, "go", (), ("go",), ("go", None, None), ["go", None], (None, None), (None, "a")]
        values += [(value, None) for value in NO_DATA] + [("go", value) for value in NO_DATA]
        for value in values:
            for key in (("l", "seen"), ("r", "go"), ("r", "never")):
                turns = with_item(TURNS, key, value)
                self.assert_bad(turns, ("a", "b"), "look", STEPS, turns)

    def test_an_extra_in_a_leftward_turn(self):
        for key in (("l", "seen"), ("l", "never")):
            turns = with_item(TURNS, key, ("go", "a"))
            self.assert_bad(turns, ("a", "b"), "look", STEPS, turns)
        turns = with_item(TURNS, ("r", "go"), ("look", "a"))
        self.assert_same(letters_of(Sweeps(("a", "b"), "look", STEPS, turns)), ("a", "b", "x"))

    def test_one_key_that_lacks(self):
        for table in (STEPS, TURNS):
            for key in table:
                torn = {other: table[other] for other in table if other != key}
                steps, turns = (torn, TURNS) if table is STEPS else (STEPS, torn)
                self.assert_bad(key, ("a", "b", "c"), "look", steps, turns)

    def test_keys_of_letters_that_are_none_may_lack(self):
        steps = {key: STEPS[key] for key in STEPS if "c" not in key}
        self.assert_same(letters_of(Sweeps(("a", "b"), "look", steps, TURNS)), ("a", "b", "x"))
        self.assert_bad(("l", "look", "c"), ("a", "c"), "look", steps, TURNS)

    def test_the_key_with_the_least_repr(self):
        steps = {key: STEPS[key] for key in STEPS if key not in (("r", "go", "b"), ("l", "seen", "x"))}
        self.assert_bad(("l", "seen", "x"), ("a", "b"), "look", steps, TURNS)
        turns = {key: TURNS[key] for key in TURNS if key != ("l", "seen")}
        self.assert_bad(("l", "seen"), ("a", "b"), "look", STEPS, turns)
        # A bracket that closes comes ahead of a comma, and 10 ahead of 9.
        self.assert_bad(("l", "seen"), ("a", "b"), "look", steps, turns)
        self.assert_bad(("l", 10), (1, 2), 9, {("l", 9, 1): (10, 1)}, {("l", 9): None})
        self.assert_bad(("l", 10, 2), (2, 9), 9, {("l", 9, 2): (10, 2)}, {("l", 9): None, ("l", 10): None})

    def test_keys_behind_a_key_that_lacks_may_lack(self):
        self.assert_bad(("l", "look"), ("a", "b"), "look", {}, {})
        self.assert_bad(("l", "look", "a"), ("a", "b"), "look", {}, {("l", "look"): None})
        self.assert_bad(("l", "look"), ("a", "a"), "look", {("l", "look", "a"): ("look", "a")}, {})

    def test_random_keys_that_lack(self):
        rng = random.Random(5)
        some = 0
        for first, begin, steps, turns in plain.random_machines(600, seed=2):
            steps = {key: steps[key] for key in steps if rng.random() < 0.85}
            turns = {key: turns[key] for key in turns if rng.random() < 0.9}
            told = plain.lacking((first, begin, steps, turns))
            if told:
                some += 1
                self.assert_bad(told[0], first, begin, steps, turns)
            else:
                self.assertEqual(Sweeps(first, begin, steps, turns).steps, steps)
        self.assertGreater(some, 200)

    def test_the_first_error_of_several(self):
        bad = {None: None}
        self.assert_bad((), (), None, None, None)
        self.assert_bad(None, ("a", "b"), None, bad, bad)
        self.assert_bad(bad, ("a", "b"), "look", bad, [])
        self.assert_bad([], ("a", "b"), "look", {}, [])
        other = {("l", "x"): ("y", "z")}
        self.assert_bad(other, ("a", "b"), "look", {}, other)

    def test_what_is_passed_stays(self):
        steps, turns = {("l", "look", "a"): ["x"]}, {}
        before = copy.deepcopy((steps, turns))
        self.assert_bad(steps, ("a", "b"), "look", steps, turns)
        self.assertEqual((steps, turns), before)


class LotsTest(TilesTest):
    def test_random_machines(self):
        for machine in plain.random_machines(500, seed=3):
            states, letters = plain.lots(*machine)
            sweeps = made(machine)
            self.assert_same(letters_of(sweeps), tuple(letters))
            for direction in "lr":
                self.assert_same(states_of(sweeps, direction=direction), tuple(sorted(states[direction], key=repr)))

    def test_order_by_repr(self):
        letters = (9, 10, -1, "b", 'a"', "a'", (), (1,), ("",), "None", ("a", None))
        steps = {("l", "s", letter): ("s", letter) for letter in letters}
        told = ((), ('',), ('a', None), (1,), "None", "b", 'a"', "a'", -1, 10, 9)
        self.assertEqual(tuple(sorted(letters, key=repr)), tuple(sorted(told, key=repr)))
        self.assert_same(letters_of(Sweeps(letters, "s", steps, {("l", "s"): None})), tuple(sorted(told, key=repr)))
        steps = {("l", state, 0): (letters[(at + 1) % len(letters)], 0) for at, state in enumerate(letters)}
        sweeps = Sweeps((0, 0), 9, steps, {("l", state): None for state in letters})
        self.assert_same(states_of(sweeps, "l"), tuple(sorted(letters, key=repr)))

    def test_letters_come_by_first_by_steps_and_as_extra_ones(self):
        sweeps = Sweeps(("f", "g"), "s", {
            **{("l", "s", letter): ("s", "w") for letter in "fgwe"},
            **{("r", "t", letter): ("t", letter) for letter in "fgwe"},
        }, {("l", "s"): ("t", None), ("r", "t"): ("s", "e")})
        self.assert_same(letters_of(sweeps), ("e", "f", "g", "w"))

    def test_a_state_can_come_in_one_direction_alone(self):
        sweeps = made(COUNTER)
        self.assert_same(states_of(sweeps, "l"), ("back",))
        self.assert_same(states_of(sweeps, "r"), ("add", "keep"))

    def test_directions_that_are_none(self):
        for direction in ("", "L", "lr", "left", None, 0, True, ("l",), ["l"]):
            self.assert_error(BadName, [direction], states_of, made(COUNTER), direction)


class RunTest(TilesTest):
    def test_a_machine_that_ends(self):
        told = (("a", "b", "c"), ("a", "b", "x"), ("a", "b", "x"), ("a", "x", "x"), ("a", "x", "x"),
                ("x", "x", "x"), ("x", "x", "x"), ("x", "x", "x"))
        self.assert_same(run(made(EATER), 8), told)
        self.assert_same(run(made(EATER), 9), told)
        self.assert_same(run(made(EATER), 10 ** 9), told)
        for most in (1, 2, 7):
            self.assert_error(TooMany, ["rows", most + 1, most], run, made(EATER), most)

    def test_a_machine_that_does_not_end(self):
        for most in (1, 2, 10, 100):
            self.assert_error(TooMany, ["rows", most + 1, most], run, made(COUNTER), most)

    def test_rows_grow_at_the_right(self):
        first, begin, steps, turns = COUNTER
        sweeps = Sweeps(("1", "1"), begin, {**steps, **{("l", "end", digit): ("end", digit) for digit in "01"}},
                        {**turns, ("r", "add"): ("end", "1"), ("l", "end"): None})
        self.assert_same(run(sweeps, 4), (("1", "1"), ("1", "1"), ("0", "0", "1"), ("0", "0", "1")))

    def test_a_rightward_row_that_ends_the_whole(self):
        steps = {("l", 0, "a"): (0, "b"), ("l", 0, "b"): (0, "b"), ("r", 1, "a"): (1, "a"), ("r", 1, "b"): (1, "a")}
        sweeps = Sweeps(("a", "a"), 0, steps, {("l", 0): (1, None), ("r", 1): None})
        self.assert_same(run(sweeps, 3), (("a", "a"), ("b", "b"), ("a", "a")))
        self.assert_error(TooMany, ["rows", 3, 2], run, sweeps, 2)

    def test_walks_go_in_their_directions(self):
        # Each step writes the letter that was met ahead of it in the walk.
        letters = ("a", "b", "c")
        steps = {(direction, state, letter): (letter, state) for direction in "lr" for state in letters
                 for letter in letters}
        turns = {**{("l", state): ("c", None) for state in letters}, **{("r", state): None for state in letters}}
        self.assert_same(run(Sweeps(("a", "b", "b"), "c", steps, turns), 3),
                         (("a", "b", "b"), ("b", "b", "c"), ("c", "b", "b")))

    def test_most_that_is_no_number_from_1_on(self):
        for sweeps in (made(EATER), made(COUNTER)):
            for most in (0, -1, -10 ** 30, True, False, None, 1.0, "8", (), [8]):
                self.assert_error(BadNumber, ["most", most], run, sweeps, most)

    def test_random_machines(self):
        ended = 0
        for machine in plain.random_machines(600, seed=4):
            told = plain.run(machine, 12)
            sweeps = made(machine)
            if told is None:
                self.assert_error(TooMany, ["rows", 13, 12], run, sweeps, 12)
            else:
                ended += 1
                self.assert_same(run(sweeps, 12), told)
                self.assert_same(run(sweeps, len(told)), told)
                self.assert_error(TooMany, ["rows", len(told), len(told) - 1], run, sweeps, len(told) - 1)
        self.assertGreater(ended, 100)

    def test_nothing_changes(self):
        sweeps = made(EATER)
        self.assertEqual([run(sweeps, 9), run(sweeps, 9)], [plain.run(EATER, 9)] * 2)
        self.assertEqual((sweeps.first, sweeps.begin, sweeps.steps, sweeps.turns), EATER)


if __name__ == "__main__":
    unittest.main()
