"""[52] to [56]: machines that make told shapes."""

import random
import unittest

import plain_healing
import plain_sweeps as plain
from helping import TilesTest
from plain_sweeps import COUNTER, EATER, made
from tilesregrow.blocks import Picture
from tilesregrow.errors import BadNumber, TooMany
from tilesregrow.healing import rounds_left
from tilesregrow.blocks import bed_of
from tilesregrow.shapes import lengths_of, shaped, square, stairs, tower
from tilesregrow.sweeps import Sweeps, letters_of, run, states_of

NO_NUMBERS = (-1, -2, 0, -10 ** 9, True, False, None, 2.0, 5.5, "5", "", (5,), [5], {5: 5}, b"5")


def width_of(many):
    """The least number from 2 on of digits that are enough."""
    width = 2
    while many > 2 ** width:
        width += 1
    return width


def digits_of(number, width):
    return tuple(reversed(bin(number)[2:].zfill(width)))


def tower_rows(rows):
    """All rows of a tower."""
    many = (rows - 1) // 2
    width = width_of(many)
    found = []
    for row in range(rows):
        number = 2 ** width - many + row // 2 if many else 0
        found.append(digits_of(number % 2 ** width, width))
    return found


def triples(sweeps):
    return sum(len(states_of(sweeps, direction)) for direction in "lr") * len(letters_of(sweeps))


def edges(low, high):
    """Numbers at powers of two and beside them, and all small ones."""
    found = set(range(low, 40))
    for power in range(1, 12):
        found |= {2 ** power * two + more for two in (1, 2) for more in range(-3, 6)}
    return sorted(number for number in found if low <= number <= high)


class LengthsTest(TilesTest):
    def test_random_machines(self):
        for machine in plain.ending_machines(60, 12, seed=71):
            rows = plain.run(machine, 12)
            told = tuple(len(row) for row in rows)
            self.assert_same(lengths_of(made(machine), 12), told)
            self.assert_same(lengths_of(most=len(rows), sweeps=made(machine)), told)
            for most in range(1, len(rows)):
                self.assert_error(TooMany, ["rows", most + 1, most], lengths_of, made(machine), most)

    def test_errors_of_run(self):
        for most in (0, -1, True, None, "8", 1.0, (8,)):
            self.assert_error(BadNumber, ["most", most], lengths_of, made(EATER), most)
            self.assert_error(BadNumber, ["most", most], lengths_of, made(COUNTER), most)
        for most in (1, 2, 9, 50):
            self.assert_error(TooMany, ["rows", most + 1, most], lengths_of, made(COUNTER), most)

    def test_rows_that_grow(self):
        sweeps = made(plain_healing.program_machine((1, 3)))
        self.assert_same(lengths_of(sweeps, 99), tuple(len(row) for row in run(sweeps, 99)))
        self.assert_same((lengths_of(sweeps, 99)[0], lengths_of(sweeps, 99)[-1]), (2, 4))


class TowerTest(TilesTest):
    def test_by_hand(self):
        for rows, told in (
                (2, ["00", "00"]), (3, ["11", "11", "00"]), (4, ["11", "11", "00", "00"]),
                (5, ["01", "01", "11", "11", "00"]), (6, ["01", "01", "11", "11", "00", "00"]),
                (9, ["00", "00", "10", "10", "01", "01", "11", "11", "00"]),
                (11, ["110"] * 2 + ["001"] * 2 + ["101"] * 2 + ["011"] * 2 + ["111"] * 2 + ["000"])):
            self.assert_same(run(tower(rows), 99), tuple(tuple(row) for row in told))
        self.assert_same(run(tower(rows=3), 3), (("1", "1"), ("1", "1"), ("0", "0")))

    def test_all_letters(self):
        for rows in edges(2, 300):
            self.assertIsInstance(tower(rows), Sweeps)
            self.assert_same(run(tower(rows), rows), tuple(tower_rows(rows)))
            self.assert_error(TooMany, ["rows", rows, rows - 1], run, tower(rows), rows - 1)

    def test_numbers_of_the_rows(self):
        for rows in (5, 8, 9, 17, 18, 33, 34, 35, 100, 257, 258):
            many = (rows - 1) // 2
            width = width_of(many)
            for row, letters in enumerate(run(tower(rows), rows)):
                number = sum(2 ** at for at, digit in enumerate(letters) if digit == "1")
                self.assertEqual(number, (2 ** width - many + row // 2) % 2 ** width)

    def test_few_triples_and_states_that_are_strings(self):
        for rows in edges(2, 10 ** 6) + [10 ** 5, 10 ** 6 - 1, 10 ** 6]:
            self.assertLessEqual(triples(tower(rows)), 8)
            self.assertTrue(all(isinstance(state, str) for direction in "lr"
                                for state in states_of(tower(rows), direction)))
            self.assertTrue(all(letter in ("0", "1") for letter in letters_of(tower(rows))))

    def test_large_ones_are_made(self):
        for rows, width in ((10 ** 6, 19), (2 ** 19 + 1, 18), (2 ** 19 + 3, 19), (2 ** 17 + 1, 16), (2 ** 17 + 2, 16)):
            many = (rows - 1) // 2
            self.assert_same(tower(rows).first, digits_of((2 ** width - many) % 2 ** width, width))

    def test_errors(self):
        for rows in (*NO_NUMBERS, 1, 10 ** 6 + 1, 10 ** 12):
            self.assert_error(BadNumber, ["rows", rows], tower, rows)

    def test_it_ends_as_a_picture(self):
        picture = Picture(tower(40), 40)
        self.assertEqual(picture.many, 4 * 40 * 5)
        self.assert_same(rounds_left(picture, bed_of(picture.sweeps)), 2 * 200 + 40 - 1)


class SquareTest(TilesTest):
    def test_by_hand(self):
        for rows, told in (
                (2, ["00", "00"]), (3, ["11x", "11x", "00x"]), (4, ["11xx", "11xx", "00xx", "00xx"]),
                (5, ["01xxx", "01xxx", "11xxx", "11xxx", "00xxx"])):
            self.assert_same(run(square(rows), 99), tuple(tuple(row) for row in told))
        self.assert_same(run(square(rows=2), 2), (("0", "0"), ("0", "0")))

    def test_all_letters(self):
        for rows in edges(2, 150):
            told = [row + ("x",) * (rows - len(row)) for row in tower_rows(rows)]
            self.assert_same(run(square(rows), rows), tuple(told))
            self.assert_same(lengths_of(square(rows), rows), (rows,) * rows)
            self.assert_error(TooMany, ["rows", rows, rows - 1], lengths_of, square(rows), rows - 1)

    def test_few_triples_and_states_that_are_strings(self):
        for rows in edges(2, 1000) + [10 ** 4 - 1, 10 ** 4]:
            sweeps = square(rows)
            self.assertLessEqual(triples(sweeps), 16)
            self.assertTrue(all(isinstance(state, str) for direction in "lr" for state in states_of(sweeps, direction)))
            self.assertTrue(all(letter in ("0", "1", "x") for letter in letters_of(sweeps)))
        self.assertEqual(len(square(10 ** 4).first), 10 ** 4)

    def test_errors(self):
        for rows in (*NO_NUMBERS, 1, 10 ** 4 + 1, 10 ** 6):
            self.assert_error(BadNumber, ["rows", rows], square, rows)


class StairsTest(TilesTest):
    def test_by_hand(self):
        for steps, told in (
                (1, ["11", "11", "00"]), (2, ["01", "01", "11x", "11x", "00x"]),
                (4, ["00", "00", "10x", "10x", "01xx", "01xx", "11xxx", "11xxx", "00xxx"]),
                (5, ["110", "110", "001x", "001x", "101xx", "101xx", "011xxx", "011xxx", "111xxxx", "111xxxx",
                     "000xxxx"])):
            self.assert_same(run(stairs(steps), 99), tuple(tuple(row) for row in told))
        self.assert_same(lengths_of(stairs(steps=3), 7), (2, 2, 3, 3, 4, 4, 4))

    def test_all_letters(self):
        for steps in edges(1, 150):
            width = width_of(steps)
            rows = [digits_of((2 ** width - steps + row // 2) % 2 ** width, width)
                    + ("x",) * min(row // 2, steps - 1) for row in range(2 * steps + 1)]
            self.assert_same(run(stairs(steps), 2 * steps + 1), tuple(rows))
            lengths = lengths_of(stairs(steps), 1000)
            self.assert_same(lengths[-3:], (width + steps - 1,) * 3)
            self.assert_error(TooMany, ["rows", 2 * steps + 1, 2 * steps], run, stairs(steps), 2 * steps)

    def test_few_triples_and_states_that_are_strings(self):
        for steps in edges(1, 1000) + [10 ** 4 - 1, 10 ** 4]:
            sweeps = stairs(steps)
            self.assertLessEqual(triples(sweeps), 16)
            self.assertTrue(all(isinstance(state, str) for direction in "lr" for state in states_of(sweeps, direction)))
            self.assertTrue(all(letter in ("0", "1", "x") for letter in letters_of(sweeps)))

    def test_errors(self):
        for steps in (*NO_NUMBERS, 10 ** 4 + 1, 10 ** 6):
            self.assert_error(BadNumber, ["steps", steps], stairs, steps)


class ShapedTest(TilesTest):
    def test_lengths_that_are_let(self):
        for lengths in ((2, 2), (2, 2, 2), (5, 5, 5, 5), (2, 2, 3, 3), (2, 2, 3, 3, 4, 4, 4), (3, 3, 3, 3, 4, 4, 4, 4),
                        (7, 7, 8, 8), (7, 7, 8, 8, 8), (2,) * 50, (400, 400)):
            self.assert_shape(lengths)
        self.assert_same(lengths_of(shaped(lengths=(2, 2, 3, 3)), 4), (2, 2, 3, 3))

    def assert_shape(self, lengths):
        sweeps = shaped(lengths)
        self.assertIsInstance(sweeps, Sweeps)
        self.assert_same(run(sweeps, len(lengths)), tuple(("x",) * length for length in lengths))
        self.assertTrue(all(isinstance(state, str) for direction in "lr" for state in states_of(sweeps, direction)))
        self.assert_same(letters_of(sweeps), ("x",))

    def test_all_small_lengths(self):
        for many in range(2, 6):
            for code in range(4 ** many):
                lengths = tuple(1 + code // 4 ** at % 4 for at in range(many))
                right = lengths[0] >= 2
                for row in range(1, many):
                    let = [lengths[row - 1]] + [lengths[row - 1] + 1] * (row in (2, 4, 6) and row != many - 1)
                    right = right and lengths[row] in let
                if right:
                    self.assert_shape(lengths)
                else:
                    self.assert_error(BadNumber, ["lengths", lengths], shaped, lengths)

    def test_random_lengths(self):
        rng = random.Random(72)
        for _ in range(40):
            lengths = [rng.randrange(2, 6)]
            many = rng.randrange(2, 60)
            for row in range(1, many):
                more = row % 2 == 0 and row < many - 1 and rng.random() < 0.5
                lengths.append(lengths[-1] + more)
            self.assert_shape(tuple(lengths))

    def test_errors(self):
        for lengths in ((2, 2, 1), (2, 3), (2, 2, 3), (2, 2, 4, 4), (2, 2, 2, 3, 3), (2, 2, 3, 3, 4), (2, 2, 3, 2, 2),
                        (3, 2), (1, 1), (0, 0), (1, 1, 2, 2), (2,), (), (-2, -2), [2, 2], [2, 2, 3, 3], (2, True),
                        (True, True), (2, 2.0), (2, None), (2, "2"), None, 2, True, "22", {2: 2}, ((2, 2),),
                        (2, 2, (3,), 3), (2, 2, 2, 2, 2, 3), (2, 2, 3, 4, 4), (10 ** 9, 10 ** 9 + 1)):
            self.assert_error(BadNumber, ["lengths", lengths], shaped, lengths)


if __name__ == "__main__":
    unittest.main()
