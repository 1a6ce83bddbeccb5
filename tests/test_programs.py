"""[2], [26], [27], [28] and [76]: programs and their moments."""

import random
import unittest

import plain_programs as plain
from helping import NO_NUMBERS, TilesTest
from plain_programs import ALL_ORDERS, PRODUCT
from tilesregrow.errors import BadNumber, BadText
from tilesregrow.programs import Program, is_over, moments

HEAD = "registers a b\ncolours red\n"

NO_NAMES = ("", "A", "aB", "1", "1a", "a_", "a-b", "a.", "\t", "a\t", "\ta", "a" * 13, "a,b", "~", "_a", "-1")

NO_STRINGS = (None, 0, 5, True, b"registers a\ncolours c", ("registers a", "colours c"), ["a"], {"a": 1}, 1.5)


class AttributesTest(TilesTest):
    def test_all_orders(self):
        program = Program(ALL_ORDERS)
        self.assert_same(program.text, ALL_ORDERS)
        self.assert_same(program.registers, ("r", "s", "t"))
        self.assert_same(program.colours, ("white", "red", "end", "at"))
        self.assert_same(program.orders, (
            ("inc", 0), ("dec", 1), ("clear", 2), ("add", 0, 1), ("copy", 1, 2), ("ifzero", 0, 12),
            ("ifsame", 0, 1, 9), ("paint", 3), ("jump", 12), ("end",), ("paint", 0), ("jump", 0)))

    def test_by_name_and_without_a_last_line_feed(self):
        program = Program(text=PRODUCT[:-1])
        self.assert_same(program.text, PRODUCT[:-1])
        self.assert_same(program.orders, Program(PRODUCT).orders)
        self.assert_same(program.orders,
                         (("ifzero", 1, 4), ("dec", 1), ("add", 2, 0), ("jump", 0), ("paint", 1), ("end",)))

    def test_no_orders(self):
        for text in ("registers a\ncolours c", "registers a\ncolours c\n", "registers a\ncolours c\nat x\nat y\n"):
            program = Program(text)
            self.assert_same((program.registers, program.colours, program.orders), (("a",), ("c",), ()))

    def test_the_same_register_twice_in_an_order(self):
        program = Program(HEAD + "add b b\ncopy a a\nifsame b b x\nat x")
        self.assert_same(program.orders, (("add", 1, 1), ("copy", 0, 0), ("ifsame", 1, 1, 3)))

    def test_several_names_of_one_place(self):
        program = Program(HEAD + "jump y\njump x\nat x\nat y\ninc a\nat z\njump z\njump x\n"
                          "at w\njump w\nat v\njump v\nat u")
        self.assert_same(program.orders, (
            ("jump", 2), ("jump", 2), ("inc", 0), ("jump", 3), ("jump", 2), ("jump", 5), ("jump", 6)))

    def test_names_that_are_words(self):
        program = Program("registers registers inc at\ncolours colours registers end\nat at\nat registers\n"
                          "inc inc\ndec at\njump at\nifzero registers end\npaint end\njump registers\n"
                          "at end\nat inc\nadd at inc")
        self.assert_same(program.orders, (
            ("inc", 1), ("dec", 2), ("jump", 0), ("ifzero", 0, 6), ("paint", 2), ("jump", 0), ("add", 2, 1)))

    def test_longest_and_shortest_names(self):
        program = Program("registers a z23456789012 q0\ncolours x y z w\nat b99\ninc z23456789012\njump b99")
        self.assert_same(program.registers, ("a", "z23456789012", "q0"))
        self.assert_same(program.colours, ("x", "y", "z", "w"))
        self.assert_same(program.orders, (("inc", 1), ("jump", 0)))

    def test_random_texts(self):
        for text in plain.random_texts(300):
            program = Program(text)
            lines = plain.lines_of(text)
            told, places = plain.orders(text)
            self.assertEqual(program.registers, tuple(lines[0].split(" ")[1:]))
            self.assertEqual(program.colours, tuple(lines[1].split(" ")[1:]))
            self.assertEqual(len(program.orders), len(told))
            for order, words in zip(program.orders, told):
                self.assertEqual(order[0], words[0])
                names = [program.registers] * (len(order) - 1)
                if order[0] == "paint":
                    names = [program.colours]
                numbers = [known.index(word) if word in known else None for word, known in zip(words[1:], names)]
                if order[0] in ("jump", "ifzero", "ifsame"):
                    numbers[-1] = places[words[-1]]
                self.assert_same(list(order[1:]), numbers)


class BadTextTest(TilesTest):
    def assert_wrong(self, line, column, text):
        self.assert_error(BadText, [line, column], Program, text)
        self.assertEqual(plain.wrong_at(text), (line, column), text)

    def test_values_that_are_no_strings(self):
        for text in NO_STRINGS:
            self.assert_error(BadText, [0, 0], Program, text)

    def test_the_first_two_lines(self):
        for line, column, text in (
                (1, 1, ""), (1, 1, "\n"), (1, 1, "\n\n"), (1, 1, " "), (1, 1, "colours c\nregisters a"),
                (1, 1, "register a\n"),
                (1, 1, " registers a\ncolours c"), (1, 1, "Registers a\ncolours c"), (1, 2, "registers"),
                (1, 2, "registers\n"),
                (1, 2, "registers\ncolours c"), (1, 2, "registers \ncolours c"), (1, 2, "registers  a\ncolours c"),
                (1, 3, "registers a \ncolours c"), (1, 3, "registers a a\ncolours c"),
                (1, 4, "registers a b a\ncolours"),
                (1, 5, "registers a b c d\ncolours c"), (1, 5, "registers a b c a\ncolours c"),
                (1, 5, "registers a b c \n"),
                (1, 3, "registers a 1 c d\ncolours c"), (1, 1, "registers\ta\ncolours c"), (1, 1, "at a\n"),
                (2, 1, "registers a"), (2, 1, "registers a\n"), (2, 1, "registers a\n\n"),
                (2, 1, "registers a\nregisters b"),
                (2, 1, "registers a\nat x"), (2, 2, "registers a\ncolours"), (2, 2, "registers a\ncolours\n"),
                (2, 2, "registers a\ncolours \n"), (2, 3, "registers a\ncolours c c"),
                (2, 6, "registers a\ncolours c d e f g"),
                (2, 6, "registers a\ncolours c d e f c"), (2, 5, "registers a\ncolours c d e E g")):
            self.assert_wrong(line, column, text)
        for name in NO_NAMES:
            self.assert_wrong(1, 2, f"registers {name}\ncolours c")
            self.assert_wrong(1, 3, f"registers a {name}\ncolours c")
            self.assert_wrong(2, 2, f"registers a\ncolours {name}")
            self.assert_wrong(2, 5, f"registers a\ncolours c d e {name}")

    def test_lines_that_are_no_orders(self):
        for line in ("", " ", "INC a", "stop", "inc\ta", "\tinc a", " inc a", "registers a", "colours c", "a", "bed",
                     "At x", "inca"):
            for text in (HEAD + line + "\n", HEAD + line + "\ninc", HEAD + line + "\n\n"):
                self.assert_wrong(3, 1, text)
            self.assert_wrong(5, 1, HEAD + "inc a\nat x\n" + line + "\nat x\n")

    def test_lines_at(self):
        for name in NO_NAMES:
            self.assert_wrong(3, 2, HEAD + "at " + name + "\n")
        self.assert_wrong(3, 2, HEAD + "at")
        self.assert_wrong(3, 2, HEAD + "at \ninc a")
        self.assert_wrong(3, 3, HEAD + "at x y")
        self.assert_wrong(3, 3, HEAD + "at x ")
        self.assert_wrong(3, 2, HEAD + "at  x")
        self.assert_wrong(5, 2, HEAD + "at x\ninc a\nat x")
        self.assert_wrong(5, 2, HEAD + "at x\ninc a\nat x y")
        self.assert_wrong(4, 2, HEAD + "at x\nat x")

    def test_each_word_of_each_order(self):
        lines = ("inc a", "dec b", "clear a", "add a b", "copy b a", "jump x", "ifzero a x", "ifsame a b x",
                 "paint red", "end")
        for line in lines:
            words = line.split(" ")
            Program(HEAD + "at x\n" + line)
            for column in range(1, len(words) + 1):
                for bad in ("", "A", "nobody", "1", "a b", "zz"):
                    spoiled = [*words[:column - 1], bad, *words[column:]]
                    text = HEAD + "at x\n" + " ".join(spoiled) + "\nend"
                    if plain.wrong_at(text) != (4, column):
                        self.assertEqual(bad, "a b")
                    self.assert_wrong(*plain.wrong_at(text), text)
                if column > 1:
                    self.assert_wrong(4, column, HEAD + "at x\n" + " ".join(words[:column - 1]))
            for more in ("", "a", "x", "red", "end"):
                self.assert_wrong(4, len(words) + 1, HEAD + "at x\n" + line + " " + more + "\n")

    def test_names_of_other_kinds(self):
        self.assert_wrong(4, 2, HEAD + "at x\ninc x")
        self.assert_wrong(4, 2, HEAD + "at x\ninc red")
        self.assert_wrong(4, 3, HEAD + "at x\nadd a red")
        self.assert_wrong(4, 2, HEAD + "at x\npaint a")
        self.assert_wrong(4, 2, HEAD + "at x\njump a")
        self.assert_wrong(4, 2, HEAD + "at x\njump red")
        self.assert_wrong(4, 3, HEAD + "at x\nifzero a b")
        self.assert_wrong(4, 4, HEAD + "at x\nifsame a b b")

    def test_places_of_wrong_lines_are_known(self):
        self.assert_wrong(4, 3, HEAD + "jump x\nat x y")
        self.assert_wrong(3, 2, HEAD + "jump x\nat y x")
        self.assert_wrong(3, 2, HEAD + "jump X\nat X")
        self.assert_wrong(3, 2, HEAD + "jump \nat ")
        self.assert_wrong(3, 2, HEAD + "jump x\n at x")
        self.assert_wrong(3, 2, HEAD + "jump x\nat\tx")
        self.assert_wrong(6, 2, HEAD + "jump x\nat x\nifzero a x\nat x\n")
        self.assert_wrong(4, 1, HEAD + "jump x\nnothing\nat x\n")

    def test_the_first_wrong_line(self):
        self.assert_wrong(3, 2, HEAD + "inc\nat\nnothing")
        self.assert_wrong(1, 2, "registers 1\ncolours 1\nnothing")
        self.assert_wrong(2, 2, "registers a\ncolours 1\nnothing")

    def test_texts_that_are_spoiled_somewhere(self):
        rng = random.Random(2)
        wrong = 0
        for text in plain.random_texts(1500, seed=3):
            spoiled = self.spoiled(rng, text)
            told = plain.wrong_at(spoiled)
            if told is None:
                self.assertEqual(Program(spoiled).text, spoiled)
            else:
                wrong += 1
                self.assert_wrong(*told, spoiled)
        self.assertGreater(wrong, 1000)

    def spoiled(self, rng, text):
        lines = [line.split(" ") for line in plain.lines_of(text)]
        line = rng.choice(lines)
        at = rng.randrange(len(line))
        deed = rng.randrange(5)
        if deed == 0:
            del line[at]
        elif deed == 1:
            line.insert(at, rng.choice(plain.NAMES + NO_NAMES))
        elif deed == 2:
            line.append(rng.choice(plain.NAMES + NO_NAMES))
        elif deed == 3:
            lines.remove(line)
        else:
            line[at] = rng.choice(plain.NAMES + NO_NAMES)
        return "\n".join(" ".join(words) for words in lines) + "\n"


class OverTest(TilesTest):
    def test_orders(self):
        program = Program(ALL_ORDERS)
        for order in range(13):
            self.assert_same(is_over(program, order), order in (9, 12))
        self.assert_same(is_over(order=0, program=Program(HEAD)), True)
        self.assert_same(is_over(Program(HEAD + "inc a"), 0), False)
        self.assert_same(is_over(Program(HEAD + "inc a"), 1), True)


class MomentsTest(TilesTest):
    def test_by_hand(self):
        program = Program(PRODUCT)
        told = ((0, (3, 1, 0)), (1, (3, 1, 0)), (2, (3, 0, 0)), (3, (3, 0, 3)), (0, (3, 0, 3)), (4, (3, 0, 3)),
                (5, (3, 0, 3)))
        for most in (6, 7, 100, 10 ** 12):
            self.assert_same(moments(program, (3, 1, 0), most), told)
        for most in range(7):
            self.assert_same(moments(most=most, values=[3, 1, 0], program=program), told[:most + 1])

    def test_each_order(self):
        values = (6, 4)
        for line, told in (
                ("inc a", (1, (7, 4))), ("inc b", (1, (6, 5))), ("dec a", (1, (5, 4))), ("clear b", (1, (6, 0))),
                ("add a b", (1, (10, 4))), ("add b a", (1, (6, 10))), ("add a a", (1, (12, 4))),
                ("copy a b", (1, (4, 4))),
                ("copy b b", (1, (6, 4))), ("jump x", (3, (6, 4))), ("jump y", (0, (6, 4))),
                ("ifzero a x", (1, (6, 4))),
                ("ifsame a b x", (1, (6, 4))), ("ifsame b b x", (3, (6, 4))), ("paint red", (1, (6, 4)))):
            program = Program(f"{HEAD}at y\n{line}\ninc a\ninc a\nat x\n")
            self.assert_same(moments(program, values, 1), ((0, values), told))
        for line, told in (
                ("dec a", (1, (0, 0))), ("dec b", (1, (0, 0))), ("ifzero a x", (3, (0, 0))),
                ("ifsame a b x", (3, (0, 0))),
                ("ifsame b a y", (0, (0, 0))), ("add a b", (1, (0, 0)))):
            program = Program(f"{HEAD}at y\n{line}\ninc a\ninc a\nat x\n")
            self.assert_same(moments(program, (0, 0), 1), ((0, (0, 0)), told))

    def test_programs_that_are_over_at_once(self):
        for lines in ("", "end\ninc a\n"):
            for most in (0, 1, 50):
                self.assert_same(moments(Program(HEAD + lines), (5, 0), most), ((0, (5, 0)),))

    def test_a_program_that_does_not_end(self):
        program = Program(HEAD + "at x\ninc a\njump x")
        for most in (0, 1, 2, 9, 300):
            found = moments(program, (0, 7), most)
            self.assert_same(len(found), most + 1)
            self.assert_same(found, tuple((at % 2, ((at + 1) // 2, 7)) for at in range(most + 1)))

    def test_great_numbers(self):
        program = Program(HEAD + "at x\nadd a a\njump x")
        self.assert_same(moments(program, (2 ** 40 - 1, 0), 600)[-1], (0, ((2 ** 40 - 1) * 2 ** 300, 0)))

    def test_random_programs(self):
        rng = random.Random(3)
        ended = 0
        for text in plain.random_texts(600, seed=4):
            program = Program(text)
            values = plain.random_values(rng, text)
            told = plain.moments(text, values, 40)
            self.assert_same(moments(program, values, 40), told)
            ended += plain.ends(text, told)
            self.assert_same([is_over(program, order) for order, _ in told],
                             [False] * (len(told) - 1) + [plain.ends(text, told)])
            if plain.ends(text, told):
                self.assert_same(moments(program, values, len(told) - 1), told)
                self.assert_same(moments(program, values, len(told)), told)
            if len(told) > 1:
                self.assert_same(moments(program, list(values), len(told) - 2), told[:-1])
        self.assertGreater(ended, 200)


class BadValuesTest(TilesTest):
    def test_values(self):
        program = Program(HEAD + "inc a")
        for values in (None, 5, "12", "", {1: 2, 3: 4}, b"ab", (), (1,), [1], (1, 2, 3), [0, 0, 0], (1, -1), (-1, 0),
                       (2 ** 40, 0),
                       [0, 2 ** 40], (0, 2 ** 400), (True, 0), (0, False), (None, 0), (0, 1.0), ("0", 0), ((0,), 0),
                       ([0], 0)):
            self.assert_error(BadNumber, ["values", values], moments, program, values, 5)
            self.assert_error(BadNumber, ["values", values], moments, program, values, -1)
        for values in ((2 ** 40 - 1, 0), [0, 2 ** 40 - 1], (0, 0)):
            self.assert_same(moments(program, values, 0), ((0, tuple(values)),))

    def test_most(self):
        program = Program(HEAD + "inc a")
        for most in NO_NUMBERS:
            self.assert_error(BadNumber, ["most", most], moments, program, (0, 0), most)

    def test_what_is_passed_stays(self):
        values = [3, 4]
        moments(Program(HEAD + "inc a\nadd b a"), values, 9)
        self.assertEqual(values, [3, 4])


if __name__ == "__main__":
    unittest.main()
