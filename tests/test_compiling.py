"""[29] to [34]: programs as machines of sweeps."""

import random
import unittest

import plain_compiling
import plain_programs as plain
from helping import TilesTest
from plain_programs import ALL_ORDERS, PRODUCT
from tilesregrow.compiling import first_row, steps_told, sweeps_of, values_of
from tilesregrow.errors import BadNumber, TooMany
from tilesregrow.programs import Program, moments
from tilesregrow.sweeps import Sweeps, letters_of, run, states_of

HEAD = "registers a b\ncolours red blue\n"

NO_VALUES = (None, 5, "12", "", {1: 2, 3: 4}, (), (1,), [1], (1, 2, 3), (1, -1), (2 ** 40, 0), [0, 2 ** 40], (True, 0),
             (0, False), (None, 0), (0, 1.0), ("0", 0), ((0,), 0))


class RowsTest(TilesTest):
    def test_first_rows(self):
        program = Program(HEAD + "inc a")
        for values, told in (
                ((0, 0), ((0, 0), (0, 0))), ((1, 0), ((1, 0), (0, 0))), ((2, 3), ((0, 1), (1, 1))),
                ((3, 1), ((1, 1), (1, 0))),
                ((4, 1), ((0, 1), (0, 0), (1, 0))), ((0, 6), ((0, 0), (0, 1), (0, 1))),
                ((7, 8), ((1, 0), (1, 0), (1, 0), (0, 1)))):
            row = tuple((digits, "red") for digits in told)
            self.assert_same(first_row(program, values), row)
            self.assert_same(first_row(values=list(values), program=program), row)

    def test_powers_of_two(self):
        program = Program("registers a\ncolours blue red\n")
        for bits in range(2, 41):
            row = first_row(program, (2 ** bits - 1,))
            self.assert_same(row, (((1,), "blue"),) * bits)
            self.assert_same(values_of(row), (2 ** bits - 1,))
            if bits < 40:
                row = first_row(program, [2 ** bits])
                self.assert_same(row, (((0,), "blue"),) * bits + (((1,), "blue"),))
                self.assert_same(values_of(row), (2 ** bits,))

    def test_rows_told_back(self):
        rng = random.Random(1)
        for text in plain.random_texts(100):
            program = Program(text)
            values = plain.random_values(rng, text, bits=41)
            row = first_row(program, values)
            self.assert_same(row, plain_compiling.first_row(text, values))
            self.assert_same(values_of(row), values)
            self.assert_same(values_of(row=list(row)), values)

    def test_values_of_any_rows(self):
        self.assert_same(values_of((((1,), "x"),)), (1,))
        self.assert_same(values_of([((0, 1, 0), "x")]), (0, 1, 0))
        self.assert_same(values_of((((0, 1), "x"), ((0, 1), "y"), ((1, 0), "z"), ((0, 0), "x"))), (4, 3))
        row = (((1, 0), "c"),) * 399 + (((1, 1), "d"),)
        self.assert_same(values_of(row), (2 ** 400 - 1, 2 ** 399))

    def test_bad_values(self):
        program = Program(HEAD + "inc a")
        for values in NO_VALUES:
            self.assert_error(BadNumber, ["values", values], first_row, program, values)
            self.assert_error(BadNumber, ["values", values], sweeps_of, program, values)

    def test_what_is_passed_stays(self):
        values = [5, 6]
        first_row(Program(HEAD), values)
        sweeps_of(Program(HEAD + "inc a\nadd a b"), values)
        self.assertEqual(values, [5, 6])

    def test_steps_told(self):
        program = Program(HEAD)
        rows = [(((at % 2, at // 2 % 2), "red"), ((1, 0), "blue")) for at in range(7)]
        self.assert_same(steps_told(program, []), ())
        self.assert_same(steps_told(program, rows[:1]), ())
        self.assert_same(steps_told(program, rows[:2]), ((3, 0),))
        self.assert_same(steps_told(program, rows[:3]), ((3, 0),))
        self.assert_same(steps_told(program, rows), ((3, 0), (3, 1), (3, 0)))
        self.assert_same(steps_told(rows=tuple(rows), program=program), ((3, 0), (3, 1), (3, 0)))
        self.assert_same(steps_told(program, [list(row) for row in rows]), ((3, 0), (3, 1), (3, 0)))


class TablesTest(TilesTest):
    def assert_tables(self, text, values):
        sweeps = sweeps_of(Program(text), values)
        steps, turns = plain_compiling.Told(text).tables()
        self.assertIsInstance(sweeps, Sweeps)
        self.assertEqual(sweeps.steps, steps)
        self.assertEqual(sweeps.turns, turns)
        self.assert_same(sweeps.first, first_row(Program(text), values))
        self.assert_same(sweeps.begin, ("back", 0, None))
        return sweeps

    def test_a_small_program_by_hand(self):
        text = "registers a\ncolours c\ninc a\n"
        sweeps = sweeps_of(values=(1,), program=Program(text))
        zero, one = ((0,), "c"), ((1,), "c")
        back, carry, kept, over = ("back", 0, None), ("do", 0, 1), ("do", 0, 0), ("back", 1, None)
        self.assertEqual(sweeps.steps, {
            ("l", back, zero): (back, zero), ("l", back, one): (back, one),
            ("r", carry, zero): (kept, one), ("r", carry, one): (carry, zero),
            ("r", kept, zero): (kept, zero), ("r", kept, one): (kept, one),
            ("l", over, zero): (over, zero), ("l", over, one): (over, one)})
        self.assertEqual(sweeps.turns, {
            ("l", back): (carry, None), ("r", carry): (over, one), ("r", kept): (over, None), ("l", over): None})
        self.assert_tables(text, (1,))

    def test_a_dec_by_hand(self):
        sweeps = sweeps_of(Program("registers a b\ncolours c\ndec b\n"), (0, 0))
        fix = ("back", 1, 1)
        self.assertEqual(sweeps.turns[("r", ("do", 0, 1))], (fix, None))
        self.assertEqual(sweeps.turns[("r", ("do", 0, 0))], (("back", 1, None), None))
        self.assertIsNone(sweeps.turns[("l", fix)])
        self.assertEqual(sweeps.steps[("l", fix, ((1, 1), "c"))], (fix, ((1, 0), "c")))
        self.assertEqual(sweeps.steps[("r", ("do", 0, 1), ((1, 0), "c"))], (("do", 0, 1), ((1, 1), "c")))
        self.assertEqual(sweeps.steps[("r", ("do", 0, 1), ((1, 1), "c"))], (("do", 0, 0), ((1, 0), "c")))
        self.assertEqual(sweeps.steps[("r", ("do", 0, 0), ((1, 1), "c"))], (("do", 0, 0), ((1, 1), "c")))

    def test_all_orders(self):
        for text in (ALL_ORDERS, PRODUCT):
            self.assert_tables(text, (1, 2, 3))

    def test_registers_with_themselves(self):
        for line in ("add a a", "add b b", "copy a a", "copy b b", "ifsame a a x", "ifsame b b y", "ifzero b y",
                     "dec a"):
            self.assert_tables(f"{HEAD}at y\n{line}\nat x\nend\n", (3, 0))

    def test_states_that_do_not_come_have_no_items(self):
        sweeps = self.assert_tables(HEAD + "jump x\ninc a\nat x\npaint blue\n", (0, 0))
        self.assertEqual({state[:2] for _, state in sweeps.turns},
                         {("back", 0), ("do", 0), ("back", 2), ("do", 2), ("back", 3)})
        sweeps = self.assert_tables(HEAD + "ifsame a a x\nat x\n", (0, 1))
        self.assertNotIn(("r", ("do", 0, 1)), sweeps.turns)
        sweeps = self.assert_tables(HEAD + "end\ninc a", (0, 1))
        self.assertEqual(sweeps.turns, {("l", ("back", 0, None)): None})
        self.assertEqual(self.assert_tables(HEAD, (0, 1)).turns, {("l", ("back", 0, None)): None})

    def test_the_items_do_not_hang_on_the_first_numbers(self):
        # From 0 no digit is ever 1 here, yet the carry and the digit have their items.
        sweeps = self.assert_tables(HEAD + "add a b\n", (0, 0))
        self.assert_same(letters_of(sweeps), (((0, 0), "red"),))
        self.assertIn(("r", ("do", 0, 1), ((1, 1), "blue")), sweeps.steps)
        self.assertEqual(sweeps.steps, sweeps_of(Program(HEAD + "add a b\n"), (77, 5)).steps)
        self.assert_same(states_of(sweeps, "l"), (("back", 0, None), ("back", 1, None)))

    def test_random_programs(self):
        rng = random.Random(2)
        for text in plain.random_texts(300, seed=5):
            self.assert_tables(text, plain.random_values(rng, text))


class RowsOfRunsTest(TilesTest):
    def assert_rows(self, text, values, most=40):
        """The rows of a run against the moments; returns whether it ended."""
        program = Program(text)
        sweeps = sweeps_of(program, values)
        found = moments(program, values, most)
        if not plain.ends(text, found):
            self.assert_error(TooMany, ["rows", 2 * most + 2, 2 * most + 1], run, sweeps, 2 * most + 1)
            return False
        rows = run(sweeps, 2 * len(found))
        self.assert_same(len(rows), 2 * len(found))
        self.assert_same(steps_told(program, rows), tuple(numbers for _, numbers in found))
        self.assertEqual(steps_told(program, rows), tuple(numbers for _, numbers in plain.moments(text, values, most)))
        self.assertEqual([tuple(colour for _, colour in row) for row in rows[1::2]],
                         plain_compiling.painted(text, found))
        length = len(rows[0])
        for at, (_, numbers) in enumerate(found):
            length = max(length, len(plain_compiling.first_row(text, numbers)))
            self.assertEqual(len(rows[2 * at]), len(rows[2 * at + 1]))
            self.assertEqual(len(rows[2 * at]), length)
        return True

    def test_a_product(self):
        for values in ((3, 4, 0), (0, 5, 0), (7, 0, 9), (2 ** 40 - 1, 3, 2 ** 40 - 1)):
            self.assertTrue(self.assert_rows(PRODUCT, values))
            rows = run(sweeps_of(Program(PRODUCT), values), 400)
            self.assert_same(values_of(rows[-1]), (values[0], 0, values[2] + values[0] * values[1]))
            self.assertEqual({colour for _, colour in rows[-1]}, {"red"})

    def test_each_order_with_two_rows(self):
        for line in ("inc a", "dec a", "dec b", "clear b", "add a b", "add b a", "add a a", "copy a b", "copy b a",
                     "jump x",
                     "ifzero a x", "ifzero b x", "ifsame a b x", "ifsame a a x", "paint blue", "paint red", "end"):
            text = f"{HEAD}{line}\ninc a\nat x\npaint blue\n"
            for values in ((0, 0), (1, 0), (0, 1), (3, 3), (5, 6), (7, 8), (8, 7), (1, 2)):
                self.assertTrue(self.assert_rows(text, values))

    def test_dec_at_0(self):
        rows = run(sweeps_of(Program(HEAD + "dec b\n"), (2, 0)), 4)
        self.assert_same([tuple(digits for digits, _ in row) for row in rows], [
            ((0, 0), (1, 0)), ((0, 0), (1, 0)), ((0, 1), (1, 1)), ((0, 0), (1, 0))])

    def test_sums_that_need_a_cell_more(self):
        rows = run(sweeps_of(Program(HEAD + "inc a\nadd b a\n"), (3, 4)), 6)
        self.assert_same([tuple(digits for digits, _ in row) for row in rows], [
            ((1, 0), (1, 0), (0, 1)), ((1, 0), (1, 0), (0, 1)), ((0, 0), (0, 0), (1, 1)), ((0, 0), (0, 0), (1, 1)),
            ((0, 0), (0, 0), (1, 0), (0, 1)), ((0, 0), (0, 0), (1, 0), (0, 1))])

    def test_the_colour_of_a_cell_that_comes(self):
        rows = run(sweeps_of(Program(HEAD + "paint blue\ninc a\npaint blue"), (3, 0)), 8)
        self.assert_same([tuple(colour for _, colour in row) for row in rows], [
            ("red",) * 2, ("red",) * 2, ("blue",) * 2, ("blue",) * 2, ("blue", "blue", "red"), ("blue", "blue", "red"),
            ("blue",) * 3, ("blue",) * 3])

    def test_a_program_that_does_not_end(self):
        self.assertFalse(self.assert_rows(HEAD + "at x\ninc a\njump x\n", (0, 0)))
        self.assertFalse(self.assert_rows(HEAD + "at x\njump x\n", (3, 0), most=1))

    def test_random_programs(self):
        rng = random.Random(6)
        ended = 0
        for text in plain.random_texts(500, seed=7):
            ended += self.assert_rows(text, plain.random_values(rng, text))
        self.assertGreater(ended, 200)


if __name__ == "__main__":
    unittest.main()
