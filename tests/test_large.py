"""[25], [35] and [44]: machines, programs and pictures as large as the document lets callers have."""

import random
import unittest

import plain_blocks
import plain_programs
import plain_sweeps as plain
from helping import TilesTest
from tilesregrow.blocks import Picture, bed_of, label_at, labels_of, outcome, shown, tiles_of
from tilesregrow.compiling import first_row, steps_told, sweeps_of, values_of
from tilesregrow.ends import settle
from tilesregrow.errors import BadTile, TooMany
from tilesregrow.programs import Program, is_over, moments
from tilesregrow.sweeps import Sweeps, alike, fed, least, letters_of, parted, run, states_of

STATES, LETTERS, LENGTH = 400, 60, 400

LETTER = [("letter", number) for number in range(LETTERS)]


def chain(last):
    """States in a row: the first letter leads on, all others lead back; only the last one writes otherwise."""
    steps, turns = {}, {}
    for direction in "lr":
        for state in range(STATES):
            for letter in LETTER:
                follower = min(state + 1, STATES - 1) if letter == LETTER[0] else 0
                steps[direction, state, letter] = follower, letter
            turns[direction, state] = state, None
        steps[direction, STATES - 1, LETTER[-1]] = 0, last
    return tuple(LETTER), 0, steps, turns


def doubled_machine(rng, many):
    """A machine whose states are many times so many as there are classes of them."""
    small = STATES // many
    steps, turns = {}, {}
    told = {(direction, state, letter): (rng.randrange(small), rng.choice(LETTER))
            for direction in "lr" for state in range(small) for letter in LETTER}
    for direction in "lr":
        for state in range(STATES):
            for letter in LETTER:
                follower, written = told[direction, state % small, letter]
                steps[direction, state, letter] = follower + small * rng.randrange(many), written
            turns[direction, state] = (state + 7) % STATES, None
    return tuple(LETTER), 0, steps, turns


class LargeMachinesTest(TilesTest):
    def test_a_long_chain_of_states(self):
        sweeps = Sweeps(*chain(LETTER[1]))
        self.assertEqual(letters_of(sweeps), tuple(sorted(LETTER, key=repr)))
        for direction in "lr":
            states = tuple(sorted(range(STATES), key=str))
            self.assertEqual(states_of(sweeps, direction), states)
            self.assertEqual(alike(sweeps, direction), tuple((state,) for state in states))
        self.assertEqual(least(sweeps).steps, sweeps.steps)
        self.assertIsNone(parted(sweeps, least(sweeps)))
        other = Sweeps(*chain(LETTER[2]))
        words = parted(sweeps, other)
        self.assertNotEqual(fed(sweeps, words), fed(other, words))
        self.assertLessEqual(sum(len(word) + 1 for word in words), 4 * STATES)

    def test_all_states_alike(self):
        first, begin, steps, turns = chain(LETTER[-1])
        small = least(Sweeps(first, begin, steps, turns))
        self.assertEqual((len(small.steps), len(small.turns)), (2 * LETTERS, 2))
        self.assertEqual([len(alike(small, direction)) for direction in "lr"], [1, 1])

    def test_classes_of_many_states(self):
        sweeps = Sweeps(*doubled_machine(random.Random(1), 4))
        for direction in "lr":
            self.assertEqual(alike(sweeps, direction), tuple(sorted(
                [tuple(sorted(range(at, STATES, STATES // 4), key=str)) for at in range(STATES // 4)],
                key=lambda lot: str(lot[0]))))
        small = least(sweeps)
        self.assertEqual(len(small.turns), 2 * STATES // 4)
        self.assertIsNone(parted(sweeps, small))
        self.assert_error(TooMany, ["rows", 41, 40], run, small, 40)

    def test_a_key_that_lacks(self):
        first, begin, steps, turns = chain(LETTER[1])
        del steps["r", 77, LETTER[3]], steps["r", 9, LETTER[59]], turns["r", 9]
        self.assert_error(BadTile, [("r", 77, LETTER[3])], Sweeps, first, begin, steps, {**turns, ("r", 9): (9, None)})
        self.assert_error(BadTile, [("r", 77, LETTER[3])], Sweeps, first, begin, steps, turns)

    def test_long_rows(self):
        machine = (tuple(LETTER[at % LETTERS] for at in range(LENGTH)), *chain(LETTER[1])[1:])
        turns = {**machine[3], ("r", 0): None}
        rng = random.Random(2)
        words = [tuple(rng.choice(LETTER) for _ in range(LENGTH)) for _ in range(50)]
        sweeps = Sweeps(*machine)
        self.assertEqual(fed(sweeps, words), plain.fed(machine, words))
        self.assertEqual(run(Sweeps(*machine[:3], turns), 1000), plain.run((*machine[:3], turns), 1000))


class LargeProgramsTest(TilesTest):
    def test_forty_orders_and_great_numbers(self):
        lines = ["at top"]
        for number in range(13):
            lines += ["add a b", "paint red", "add b a"]
        text = "registers a b c\ncolours white red blue green\n" + "\n".join([*lines, "jump top"]) + "\n"
        program = Program(text)
        self.assertEqual(len(program.orders), 40)
        values = (2 ** 40 - 1, 2 ** 40 - 1, 0)
        found = moments(program, values, 300)
        self.assertEqual(found, plain_programs.moments(text, values, 300))
        self.assertGreater(max(found[-1][1]), 2 ** 150)
        sweeps = sweeps_of(program, values)
        self.assert_error(TooMany, ["rows", 603, 602], run, sweeps, 602)
        ended = Program(text.replace("jump top", "inc c"))
        rows = run(sweeps_of(ended, values), 1000)
        self.assertEqual(steps_told(ended, rows), tuple(numbers for _, numbers in moments(ended, values, 300)))

    def test_numbers_with_nearly_400_digits(self):
        program = Program("registers a\ncolours red\nat x\n" + "add a a\n" * 40)
        values = (2 ** 40 - 1,)
        row = first_row(program, values)
        rows = run(sweeps_of(program, values), 100)
        self.assertEqual(len(rows), 82)
        for _ in range(8):
            rows = run(Sweeps(rows[-1], ("back", 0, None), *vars_of(program)), 100)
        self.assertEqual(values_of(rows[-1]), ((2 ** 40 - 1) * 2 ** 360,))
        self.assertEqual((len(row), len(rows[-1])), (40, 400))

    def test_a_long_run_that_ends(self):
        text = "registers a b\ncolours red\nat x\nifzero a y\ndec a\ninc b\njump x\nat y\n"
        program = Program(text)
        found = moments(program, (74, 0), 299)
        self.assertEqual((len(found), found[-1][1]), (298, (0, 74)))
        self.assertTrue(is_over(program, found[-1][0]))
        self.assertEqual(steps_told(program, run(sweeps_of(program, (74, 0)), 596)), tuple(told for _, told in found))


def vars_of(program):
    sweeps = sweeps_of(program, (0,))
    return sweeps.steps, sweeps.turns


class LargePicturesTest(TilesTest):
    def test_five_thousand_labels(self):
        lines = ["inc a", "add b a", "dec c", "ifzero c x", "copy a b", "ifsame a b x", "clear c", "add c c", "inc b",
                 "paint red", "add a c", "dec b", "ifzero a x", "paint blue", "at x", "inc c", "dec a", "copy c a"]
        text = "registers a b c\ncolours white red blue green\n" + "\n".join(lines) + "\n"
        machine = table_of(sweeps_of(Program(text), (5, 6, 7)))
        letters = [(digits, colour) for digits in [(x, y, z) for x in (0, 1) for y in (0, 1) for z in (0, 1)]
                   for colour in ("white", "red", "blue", "green")]
        # All letters come from the first row, so that each step has its labels.
        sweeps = Sweeps(tuple(letters), *machine[1:])
        labels = labels_of(sweeps)
        self.assertGreater(len(labels), 4500)
        self.assertLess(len(labels), 5500)
        self.assertEqual(labels, plain_blocks.labels(table_of(sweeps)))
        self.assertEqual([outcome(sweeps, label) for label in labels],
                         [plain_blocks.outcome(table_of(sweeps), label) for label in labels])
        tile_set = tiles_of(sweeps)
        self.assertEqual(len(tile_set.tiles), 4 * len(labels))
        self.assert_whole(sweeps, 100)

    def test_four_thousand_cells(self):
        program = Program("registers a b\ncolours red blue\nat x\nifzero b y\ndec b\nadd a a\ninc a\njump x\nat y\n")
        sweeps = sweeps_of(program, (2 ** 29, 10))
        self.assert_whole(sweeps, 110)

    def test_high_and_wide_pictures(self):
        steps = {("l", 0, "a"): (0, "a"), ("r", 0, "a"): (0, "a")}
        wide = Sweeps(("a",) * 2000, 0, steps, {("l", 0): None})
        self.assert_whole(wide, 2)
        # A state for each two rows.
        many = 400
        steps = {(direction, state, 0): (state, 0) for direction in "lr" for state in range(many)}
        turns = {**{("l", state): (state, None) for state in range(many - 1)}, ("l", many - 1): None,
                 **{("r", state): (state + 1, None) for state in range(many - 1)}, ("r", many - 1): None}
        self.assert_whole(Sweeps((0, 0), 0, steps, turns), 2 * many)

    def assert_whole(self, sweeps, most):
        rows = run(sweeps, most)
        picture = Picture(sweeps, most)
        machine = table_of(sweeps)
        self.assertEqual(picture.labels, plain_blocks.picture(machine, most))
        self.assertEqual(picture.many, 4 * sum(len(row) for row in rows))
        bed = bed_of(sweeps)
        self.assertEqual(len(picture.lacking(bed)), picture.many - 1)
        self.assertEqual(settle(bed, picture.many), picture.many - 1)
        self.assert_same((picture.lacking(bed), picture.strange(bed)), ((), ()))
        self.assertEqual(shown(sweeps, bed), tuple(
            (column, row, letter) for row, told in enumerate(rows) for column, letter in enumerate(told)))
        self.assertEqual(label_at(bed, 1, len(rows) - 1), picture.labels[-1][1])


def table_of(sweeps):
    return sweeps.first, sweeps.begin, sweeps.steps, sweeps.turns


if __name__ == "__main__":
    unittest.main()
