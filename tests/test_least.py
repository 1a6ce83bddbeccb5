"""[22], [23] and [24]: machines that can be told apart, alike states, and least machines."""

import random
import unittest

import plain_sweeps as plain
from helping import TilesTest
from plain_sweeps import COUNTER, EATER, made
from tilesregrow.errors import BadName, BadTile, TooMany
from tilesregrow.sweeps import Sweeps, alike, fed, least, letters_of, parted, run, states_of


def table_of(sweeps):
    return sweeps.first, sweeps.begin, sweeps.steps, sweeps.turns


def many_states(sweeps):
    return len(states_of(sweeps, "l")), len(states_of(sweeps, "r"))


def spoiled(rng, machine):
    """The machine with one step or turn changed in what it writes, tells or leads to."""
    first, begin, steps, turns = machine
    steps, turns = dict(steps), dict(turns)
    letters = sorted({key[2] for key in steps}, key=repr)
    states = {direction: [key[1] for key in turns if key[0] == direction] for direction in "lr"}
    if rng.random() < 0.6:
        key = rng.choice(list(steps))
        steps[key] = rng.choice(states[key[0]]), rng.choice(letters)
    else:
        key = rng.choice(list(turns))
        extra = rng.choice((None, rng.choice(letters))) if key[0] == "r" else None
        turns[key] = rng.choice((None, (rng.choice(states[plain.OTHER[key[0]]]), extra)))
    return first, begin, steps, turns


class PartedTest(TilesTest):
    def assert_parts(self, one, two):
        """The machines are told apart, by words that are no longer than [24] tells."""
        words = parted(one, two)
        self.assertIsInstance(words, tuple)
        self.assertEqual([word for word in words if not isinstance(word, tuple)], [])
        self.assertNotEqual(fed(one, words), fed(two, words))
        self.assertNotEqual(plain.fed(table_of(one), words), plain.fed(table_of(two), words))
        self.assertLessEqual(sum(len(word) + 1 for word in words), sum(many_states(one)) + sum(many_states(two)))

    def test_a_machine_and_itself(self):
        for machine in (COUNTER, EATER, *plain.random_machines(50)):
            self.assertIsNone(parted(made(machine), made(machine)))

    def test_other_names_of_states(self):
        rng = random.Random(1)
        for machine in (EATER, COUNTER, *plain.random_machines(150, seed=6)):
            one, two = made(machine), made(plain.with_doubles(rng, machine))
            if letters_of(one) == letters_of(two):
                self.assertIsNone(parted(one, two))
                self.assertIsNone(parted(two=one, one=two))

    def test_first_rows_are_not_looked_at(self):
        other = (("b", "a", "c", "x", "x"), *EATER[1:])
        self.assertIsNone(parted(made(EATER), made(other)))

    def test_one_letter_one_extra_and_one_end(self):
        first, begin, steps, turns = ("0", "1"), *COUNTER[1:]
        one = made((first, begin, steps, turns))
        for other in (
                (first, begin, {**steps, ("r", "keep", "1"): ("keep", "0")}, turns),
                (first, begin, {**steps, ("r", "keep", "1"): ("add", "1")}, turns),
                (first, begin, steps, {**turns, ("r", "add"): ("back", "0")}),
                (first, begin, steps, {**turns, ("r", "add"): ("back", None)}),
                (first, begin, steps, {**turns, ("r", "add"): None}),
                (first, begin, steps, {**turns, ("r", "keep"): None}),
                (first, begin, steps, {**turns, ("r", "keep"): ("back", "1")}),
                (first, begin, steps, {**turns, ("l", "back"): ("keep", None)})):
            self.assert_parts(one, made(other))
            self.assert_parts(made(other), one)

    def test_what_is_changed_where_it_cannot_come(self):
        first, begin, steps, turns = EATER
        other = made((first, begin, {**steps, ("r", "seen", "a"): ("go", "x")}, {**turns, ("r", "seen"): None}))
        self.assertIsNone(parted(made(EATER), other))

    def test_one_step_or_turn_changed(self):
        rng = random.Random(2)
        found = {True: 0, False: 0}
        for machine in plain.random_machines(500, seed=7, ends=0.15):
            other = spoiled(rng, plain.with_doubles(rng, machine))
            one, two = made(machine), made(other)
            if letters_of(one) != letters_of(two):
                continue
            words = parted(one, two)
            found[words is None] += 1
            if words is not None:
                self.assert_parts(one, two)
                continue
            for _ in range(30):
                fed_words = plain.random_words(rng, letters_of(one), many=8, longest=6)
                self.assertEqual(plain.fed(machine, fed_words), plain.fed(other, fed_words))
        self.assertGreater(min(found.values()), 50)

    def test_two_random_machines(self):
        for machine, other in zip(plain.random_machines(200, seed=8, many_letters=1, ends=0.1),
                                  plain.random_machines(200, seed=9, many_letters=1, ends=0.1)):
            letter, old = machine[0][0], other[0][0]
            steps = {(*key[:2], letter): (told[0], letter) for key, told in other[2].items()}
            turns = {key: turn and (turn[0], letter if turn[1] == old else None) for key, turn in other[3].items()}
            one, two = made(machine), made(((letter, letter), other[1], steps, turns))
            words = parted(one, two)
            if words is None:
                blank = [(letter,) * (at % 4) for at in range(40)]
                self.assertEqual(fed(one, blank), fed(two, blank))
            else:
                self.assert_parts(one, two)

    def test_the_difference_is_told_late(self):
        # States in a row; the last turn alone tells them apart.
        many = 30
        steps = {("l", at, letter): (at + 1 if at < many else many, "a") for at in range(many + 1) for letter in "ab"}
        turns = {("l", at): None for at in range(many + 1)}
        other = {**turns, ("l", many): ("end", None)}
        steps = {**steps, ("r", "end", "a"): ("end", "a"), ("r", "end", "b"): ("end", "b")}
        one = Sweeps(("a", "b"), 0, steps, turns)
        two = Sweeps(("a", "b"), 0, steps, {**other, ("r", "end"): None})
        self.assert_parts(one, two)
        self.assertEqual(len(parted(one, two)[0]), many)

    def test_unlike_letters(self):
        one = made(EATER)
        for first in (("a", "b"), ("a", "a")):
            two = made((first, *EATER[1:]))
            self.assert_error(BadTile, [two], parted, one, two)
            self.assert_error(BadTile, [one], parted, two, one)
        self.assert_error(BadTile, [one], parted, made(COUNTER), one)


class AlikeTest(TilesTest):
    def test_by_hand(self):
        # "p" and 9 turn to "e" and lead on to "q" and 10, which turn to "f"; 8 ends the whole.
        steps = {("l", "p", 0): (10, 0), ("l", "q", 0): (9, 0), ("l", 10, 0): ("p", 0), ("l", 9, 0): ("q", 0),
                 ("l", 8, 0): (8, 0), ("r", "e", 0): ("f", 0), ("r", "f", 0): ("e", 0)}
        turns = {("l", "p"): ("e", None), ("l", "q"): ("f", None), ("l", 10): ("f", None), ("l", 9): ("e", None),
                 ("l", 8): None, ("r", "e"): ("q", 0), ("r", "f"): (8, 0)}
        sweeps = Sweeps((0, 0), "p", steps, turns)
        self.assert_same(alike(sweeps, "r"), (("e",), ("f",)))
        self.assert_same(alike(sweeps, "l"), (("p", 9), ("q", 10), (8,)))
        # Now "e" and "f" do the same, and with them all that is left.
        turns = {**turns, ("r", "f"): (9, 0)}
        sweeps = Sweeps((0, 0), "p", steps, turns)
        self.assert_same(alike(sweeps, direction="r"), (("e", "f"),))
        self.assert_same(alike(sweeps, direction="l"), (("p", "q", 10, 9),))
        self.assertEqual(table_of(least(sweeps)), (
            (0, 0), "p", {("l", "p", 0): ("p", 0), ("r", "e", 0): ("e", 0)},
            {("l", "p"): ("e", None), ("r", "e"): ("p", 0)}))

    def test_states_of_one_name_in_both_directions(self):
        steps = {(direction, state, 0): (state, 0) for direction in "lr" for state in "st"}
        turns = {("l", "s"): ("s", None), ("l", "t"): ("t", None), ("r", "s"): ("t", None), ("r", "t"): ("s", None)}
        sweeps = Sweeps((0, 0), "t", steps, turns)
        self.assert_same(alike(sweeps, "l"), (("s", "t"),))
        self.assert_same(alike(sweeps, "r"), (("s", "t"),))
        self.assertEqual(table_of(least(sweeps))[1:], (
            "s", {("l", "s", 0): ("s", 0), ("r", "s", 0): ("s", 0)},
            {("l", "s"): ("s", None), ("r", "s"): ("s", None)}))

    def test_random_machines(self):
        rng = random.Random(4)
        several = 0
        for machine in plain.random_machines(250, seed=10, ends=0.2):
            doubled = plain.with_doubles(rng, machine)
            sweeps = made(doubled)
            for direction in "lr":
                told = plain.alike(doubled, direction)
                several += any(len(lot) > 1 for lot in told)
                self.assert_same(alike(sweeps, direction), told)
        self.assertGreater(several, 100)

    def test_letters_that_do_not_come_tell_nothing_apart(self):
        steps = {("l", "s", "a"): ("t", "a"), ("l", "t", "a"): ("s", "a"), ("l", "s", "z"): ("s", "z"),
                 ("l", "t", "z"): ("t", "y")}
        sweeps = Sweeps(("a", "a"), "s", steps, {("l", "s"): None, ("l", "t"): None})
        self.assert_same(alike(sweeps, "l"), (("s", "t"),))
        self.assertEqual(least(sweeps).steps, {("l", "s", "a"): ("s", "a")})

    def test_no_states(self):
        sweeps = Sweeps((0, 0), 1, {("l", 1, 0): (1, 0)}, {("l", 1): None})
        self.assert_same(alike(sweeps, "r"), ())

    def test_directions_that_are_none(self):
        for direction in ("", "L", "lr", None, 0, True, ("l",), ["r"]):
            self.assert_error(BadName, [direction], alike, made(COUNTER), direction)


class LeastTest(TilesTest):
    def test_random_machines(self):
        rng = random.Random(5)
        for machine in plain.random_machines(250, seed=11, ends=0.2):
            doubled = plain.with_doubles(rng, machine)
            sweeps = made(doubled)
            small = least(sweeps)
            self.assertIsInstance(small, Sweeps)
            self.assertEqual(table_of(small), plain.least(doubled))
            self.assertEqual(table_of(sweeps), doubled)

    def test_it_does_the_same(self):
        rng = random.Random(6)
        ended = 0
        for machine in plain.random_machines(250, seed=12):
            sweeps = made(plain.with_doubles(rng, machine))
            small = least(sweeps)
            self.assertIsNone(parted(sweeps, small))
            self.assertEqual(letters_of(small), letters_of(sweeps))
            words = plain.random_words(rng, letters_of(sweeps), many=8)
            self.assertEqual(fed(small, words), fed(sweeps, words))
            rows = plain.run(machine, 20)
            if rows is None:
                self.assert_error(TooMany, ["rows", 21, 20], run, small, 20)
            else:
                ended += 1
                self.assert_same(run(small, 20), rows)
        self.assertGreater(ended, 40)

    def test_no_machine_that_does_the_same_has_fewer_states(self):
        rng = random.Random(7)
        for machine in plain.random_machines(150, seed=13, ends=0.2):
            one, two = made(machine), made(plain.with_doubles(rng, machine))
            small = least(one)
            classes = tuple(len(alike(one, direction)) for direction in "lr")
            self.assertEqual(many_states(small), classes)
            self.assertEqual([alike(small, direction) for direction in "lr"],
                             [tuple((state,) for state in states_of(small, direction)) for direction in "lr"])
            self.assertEqual(table_of(least(small)), table_of(small))
            if letters_of(one) == letters_of(two):
                for many, fewest in zip(many_states(two), classes):
                    self.assertGreaterEqual(many, fewest)
                self.assertEqual(many_states(least(two)), classes)

    def test_the_machines_by_hand(self):
        for machine in (EATER, COUNTER):
            self.assertEqual(table_of(least(made(machine))), machine)


if __name__ == "__main__":
    unittest.main()
