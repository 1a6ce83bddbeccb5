"""[21]: sweeps that are fed words."""

import random
import unittest

import plain_sweeps as plain
from helping import TilesTest
from plain_sweeps import COUNTER, EATER, made
from tilesregrow.errors import BadTile
from tilesregrow.sweeps import fed, letters_of


class FedTest(TilesTest):
    def test_no_words(self):
        self.assert_same(fed(made(EATER), []), ())
        self.assert_same(fed(made(EATER), ()), ())

    def test_words_are_walked_in_turn(self):
        self.assert_same(
            fed(made(EATER), [("a", "b"), ("a", "b"), ("b", "x", "x"), ("c",)]),
            ((("a", "x"), (None,)), (("a", "b"), (None,)), (("x", "x", "x"), (None,)), (("c",), (None,))))

    def test_empty_words(self):
        self.assert_same(fed(made(COUNTER), [()]), (((), (None,)),))
        self.assert_same(fed(words=[(), (), (), ("1",), ()], sweeps=made(COUNTER)),
                         (((), (None,)), ((), ("1",)), ((), (None,)), (("0",), ("1",)), ((), (None,))))

    def test_extra_letters_are_told_beside_the_word(self):
        self.assert_same(
            fed(made(COUNTER), (("0",), ("1", "1"), ("0", "1"), ("1", "0"), (), ("0",))),
            ((("0",), (None,)), (("0", "0"), ("1",)), (("0", "1"), (None,)), (("0", "1"), (None,)),
             ((), (None,)), (("1",), (None,))))

    def test_words_behind_the_one_that_ends_the_whole(self):
        ended = ((("x", "x"), None),)
        self.assert_same(fed(made(EATER), [("x", "x")]), ended)
        self.assert_same(fed(made(EATER), [("x", "x"), ("a",), (), ("x",)]), ended)
        self.assert_same(fed(made(EATER), [("a",), (), (), ("b",)]), ((("x",), (None,)), ((), (None,)), ((), None)))

    def test_lists_that_are_no_words(self):
        for sweeps in (made(EATER), made(COUNTER)):
            good = letters_of(sweeps)[:1]
            for word in (None, 0, "0", "a", [good[0]], {good[0]: 1}, ("z",), (*good, "z"), (None,), (good,), ([],),
                         (True,), (1,), ({},), (good[0], None)):
                for words in ([word], (word,), [good, word], [word, good], [(), (), word]):
                    self.assert_error(BadTile, [words], fed, sweeps, words)
        for words in (None, 0, "", "0", "01", {}, {("0",): 1}, True):
            self.assert_error(BadTile, [words], fed, made(COUNTER), words)

    def test_words_behind_the_end_must_be_words(self):
        words = [("x",), ("z",)]
        self.assert_error(BadTile, [words], fed, made(EATER), words)
        self.assertEqual(words, [("x",), ("z",)])

    def test_true_is_not_the_letter_1(self):
        sweeps = made(((1, 1), 0, {("l", 0, 1): (0, 1)}, {("l", 0): None}))
        self.assert_same(fed(sweeps, [(1,)]), (((1,), None),))
        for letter in (True, 1.0):
            self.assert_error(BadTile, [[(letter,)]], fed, sweeps, [(letter,)])

    def test_letters_that_cannot_come_are_none(self):
        steps = {**EATER[2], ("l", "look", "z"): ("look", "z")}
        sweeps = made((EATER[0], EATER[1], steps, EATER[3]))
        self.assert_error(BadTile, [[("z",)]], fed, sweeps, [("z",)])

    def test_the_rows_of_run_are_fed(self):
        for machine in plain.ending_machines(60, 15, seed=2):
            rows = plain.run(machine, 15)
            told = fed(made(machine), rows)
            self.assertEqual(len(told), len(rows) - 1)
            for row, (written, extra) in zip(rows[1:], told):
                self.assert_same(written + (extra if extra and extra[0] is not None else ()), row)

    def test_random_machines(self):
        rng = random.Random(3)
        for machine in plain.random_machines(300, seed=1, ends=0.1):
            sweeps = made(machine)
            for _ in range(4):
                words = plain.random_words(rng, letters_of(sweeps), many=7)
                kept = list(words)
                self.assert_same(fed(sweeps, words), plain.fed(machine, words))
                self.assert_same(fed(sweeps, tuple(words)), plain.fed(machine, words))
                self.assertEqual(words, kept)


if __name__ == "__main__":
    unittest.main()
