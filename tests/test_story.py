"""[76] to [79]: stories, what they play and tell, and how worlds are drawn."""

import random
import unittest

import plain_story as plain
from helping import TilesTest
from plain_worlds import PlainWorld
from test_programs import NO_STRINGS
from tilesregrow.compiling import sweeps_of
from tilesregrow.errors import BadNumber, BadText, Loose, Taken, TooMany
from tilesregrow.programs import Program
from tilesregrow.story import Story, drawn, played, told
from tilesregrow.texts import integer_of, number_of, numbers_of, text_of
from tilesregrow.worlds import World

PROGRAM = "registers a b\ncolours red blue\nat x\nifzero b y\ndec b\nadd a a\ninc a\njump x\nat y\npaint blue\n"

HEAD = "values 1,2\n" + PROGRAM

FULL = (HEAD + "bed\ncome 1 0 1\ncome 0 1 2\nslip -1 2 5\nslip 000 -007 012\ncut 2 0 3 2\ncut -0 -3 10 20\ncell 1 4\n"
        "cell 00 000001\nwash\ngrow 30\nrounds 2\ngrow 0\nrounds 999999")

DEEDS = (("come", (1, 0), 1), ("come", (0, 1), 2), ("slip", (-1, 2), 5), ("slip", (0, -7), 12), ("cut", (2, 0), 3, 2),
         ("cut", (0, -3), 10, 20), ("cell", 1, 4), ("cell", 0, 1), ("wash",), ("grow", 30), ("rounds", 2), ("grow", 0),
         ("rounds", 999999))

NO_N = ("", "-1", "-0", "+1", "1234567", "12a", "a", "1,2", "1.", " ", "\t1", "0x1", "1_0", "--1")

NO_Z = ("", "-", "+1", "--1", "1-", "1234567", "-1234567", "-a", "1,2", "-1.", "\t", "- 1")

NO_LIST = ("", ",", "1,", ",1", "1,,2", "-1", "1,-2", "1,a", "1234567", "1,1234567", "a", "1;2", "1,2\t")

ENDLESS = "registers a\ncolours c\nat x\ninc a\njump x\n"


def machine_of(story):
    sweeps = sweeps_of(story.program, story.numbers)
    return sweeps.first, sweeps.begin, sweeps.steps, sweeps.turns


class WordsTest(TilesTest):
    def test_numbers(self):
        for word, value in (("0", 0), ("7", 7), ("999999", 999999), ("000012", 12), ("-0", 0), ("-1", -1),
                            ("-999999", -999999), ("-000010", -10)):
            self.assert_same(integer_of(word), value)
            self.assert_same(number_of(word), None if word[0] == "-" else value)
        for word in NO_N:
            self.assert_same(number_of(word), None)
        for word in NO_Z:
            self.assert_same(integer_of(word), None)
        for word, value in (("0", (0,)), ("1,2,3", (1, 2, 3)), ("007,999999", (7, 999999)), ("0,0,0,0,0", (0,) * 5)):
            self.assert_same(numbers_of(word), value)
        for word in NO_LIST:
            self.assert_same(numbers_of(word), None)
        self.assert_same((text_of([]), text_of(["a", "", "b"])), ("", "a\n\nb\n"))


class StoryTest(TilesTest):
    def test_attributes(self):
        for text in (FULL, FULL + "\n"):
            story = Story(text=text)
            self.assert_same(story.text, text)
            self.assert_same(story.numbers, (1, 2))
            self.assert_same(story.deeds, DEEDS)
            self.assertIsInstance(story.program, Program)
            self.assert_same(story.program.text, PROGRAM)
            self.assert_same(story.program.orders, Program(PROGRAM).orders)

    def test_small_ones(self):
        for text, deeds in (("values 5\nregisters a\ncolours c\nbed", ()),
                            ("values 5\nregisters a\ncolours c\nbed\nwash\n", (("wash",),))):
            story = Story(text)
            self.assert_same((story.program.text, story.numbers, story.deeds), ("registers a\ncolours c\n", (5,), deeds))

    def test_random_stories(self):
        for text in plain.random_stories(200, 211):
            story = Story(text)
            program, numbers, _ = plain.parts(text)
            self.assert_same((story.program.text, story.numbers, story.deeds), (program, numbers, plain.deeds(text)))

    def test_values_that_are_no_strings(self):
        for text in (*NO_STRINGS, FULL.encode()):
            self.assert_error(BadText, [0, 0], Story, text)

    def test_wrong_words_by_hand(self):
        small = "values 1\nregisters a\ncolours c\n"
        for text, line, column in (
                ("", 1, 1), ("\n", 1, 1), ("value 1\n", 1, 1), ("bed", 1, 1), (" values 1", 1, 1), ("values", 1, 2),
                ("values \n", 1, 2), ("values 1,\n", 1, 2), ("values  1", 1, 2), ("values 1 2\nx", 1, 3),
                ("values 1 ", 1, 3), ("values 1", 2, 1), ("values 1\n", 2, 1), ("values 1\nbed", 2, 1),
                ("values 1\nbed x", 2, 1), ("values 1\n\nbed", 2, 1), ("values 1\nregisters a", 3, 1),
                ("values 1\nregisters a\nbed\nwash", 3, 1), ("values 1\nregisters\nbed", 2, 2),
                ("values 1\nregisters a\ncolours", 3, 2), ("values 1\nregisters a\ncolours 1\n", 3, 2), (small, 4, 1),
                (small + "inc a", 5, 1), (small + "inc b\n", 4, 2), (small + "inc a\ninc a b\nbed", 5, 3),
                (small + "jump x\nbed\nat x", 4, 2), (small + "bed x", 4, 2), (small + "bed ", 4, 2),
                (small + "bed\n\n", 5, 1), (small + "bed\nbed", 5, 1), (small + "bed\nwash\nwash now", 6, 2),
                (small + "bed\ninc a", 5, 1), (small + "bed\ncome", 5, 2), (small + "bed\ncome 1", 5, 3),
                (small + "bed\ncome 1 2", 5, 4), (small + "bed\ncome 1 2 -3", 5, 4),
                (small + "bed\ncome 1 2 3 4", 5, 5), (small + "bed\ncome 1  2 3", 5, 3),
                (small + "bed\ncut -1 -2 3", 5, 5), (small + "bed\ncut -1 -2 3 -4", 5, 5),
                (small + "bed\ncut -1 -2 3 4 5", 5, 6), (small + "bed\ncell -1 2", 5, 2),
                (small + "bed\ncell 1 2 3", 5, 4), (small + "bed\ngrow\nx", 5, 2), (small + "bed\ngrow 1 ", 5, 3),
                (small + "bed\nrounds 1234567", 5, 2), (small + "bed\nrounds", 5, 2), (small + "bed\nwash\n \n", 6, 1),
                ("values 1,2\n" + small[9:] + "bed\nwish", 5, 1)):
            self.assert_error(BadText, [line, column], Story, text)
            self.assertEqual(plain.wrong_at(text), (line, column), text)

    def test_each_word_spoiled(self):
        lines = FULL.split("\n")
        start = lines.index("bed") + 1
        for number in range(start, len(lines)):
            words = lines[number].split(" ")
            for column in range(1, len(words) + 1):
                if column == 1:
                    wrong = ("", "Come", "x", "5", "values", "bed", "comes", "\t", "inc", "world")
                else:
                    wrong = NO_Z if words[0] in ("come", "slip", "cut") and column < 4 else NO_N
                for word in wrong:
                    spoiled = " ".join(words[:column - 1] + [word] + words[column:])
                    self.assert_wrong_line(lines, number, spoiled, column)
                self.assert_wrong_line(lines, number, " ".join(words[:column - 1]), column)
            for more in ("", "1", "x"):
                self.assert_wrong_line(lines, number, " ".join([*words, more]), len(words) + 1)
        for word in NO_LIST:
            self.assert_error(BadText, [1, 2], Story, f"values {word}\n" + FULL.split("\n", 1)[1])

    def assert_wrong_line(self, lines, number, line, column):
        # Behind the first wrong line others may be wrong.
        for more in (lines[number + 1:], ["", "x"]):
            self.assert_error(BadText, [number + 1, column], Story, "\n".join([*lines[:number], line, *more, "", "wash"]))

    def test_random_spoiled_texts(self):
        rng = random.Random(212)
        wrong_ones = 0
        for text in plain.random_stories(1500, 213):
            for _ in range(rng.choice((1, 1, 2))):
                text = plain.spoiled(rng, text)
            wrong = plain.wrong_at(text)
            if wrong is not None:
                wrong_ones += 1
                self.assert_error(BadText, wrong, Story, text)
            elif len(plain.parts(text)[1]) == len(plain.parts(text)[0].split("\n")[0].split(" ")) - 1:
                self.assert_same(Story(text).deeds, plain.deeds(text))
            else:
                self.assert_error(BadNumber, ["values", plain.parts(text)[1]], Story, text)
        self.assertGreater(wrong_ones, 500)

    def test_too_many_and_too_few_numbers(self):
        for values, numbers in (("1", (1,)), ("1,2,3", (1, 2, 3)), ("0,0,0,0", (0,) * 4), ("007", (7,))):
            text = FULL.replace("values 1,2", f"values {values}")
            self.assert_error(BadNumber, ["values", numbers], Story, text)
            # All errors of the text come first.
            self.assert_error(BadText, [26, 1], Story, text + "\nx")
            self.assert_error(BadText, [4, 1], Story, text.replace("at x", "to x"))


class PlayedTest(TilesTest):
    def assert_played(self, text):
        """What a story tells, and its world, are those of the plain one; returns the name of the error or None."""
        story = Story(text)
        said, error = plain.PlainStory(text).play()
        self.assert_same(told(story), said)
        if error is not None:
            with self.assertRaises(Exception) as held:
                played(story)
            self.assertEqual([held.exception.__class__.__name__, *vars(held.exception).values()], error)
            return error[0]
        one = plain.PlainStory(text)
        one.play()
        world = played(story)
        self.assertIsInstance(world, World)
        self.assertEqual(world.bed.pairs(), one.world.bed.pairs())
        self.assert_same(world.rows(), one.world.rows())
        self.assert_same((world.wrong(), world.lacking()), (one.world.wrong(), one.world.lacking()))
        self.assert_same(drawn(world), self.drawn(world))
        return None

    def drawn(self, world):
        return tuple("".join("." if letter is None else str(sum(digit * 2 ** at for at, digit in enumerate(letter[0])))
                             for letter in row) for row in reversed(world.rows()))

    def test_by_hand(self):
        story = Story("values 1,1\n" + PROGRAM + "bed\ngrow 7\ncome 4 0 999999\n")
        names = played(Story("values 1,1\n" + PROGRAM + "bed")).bed.tile_set.names()
        self.assert_same(told(story), ("came 7", "error"))
        self.assert_error(BadNumber, ["tile", 999999], played, story)
        right = names.index((("first", 0), 1, 0))
        text = (f"values 1,1\n{PROGRAM}bed\ncome 1 0 {right}\nrounds 2\ncell 0 0\nslip 1 1 {right}\nwash\n"
                "grow 999999\ncut -5 -5 6 7\ncut 0 0 2 1\nrounds 1000\ncell 1 1\ncell 99 99\nrounds 0")
        self.assert_same(told(Story(text)), (
            "ok", "rounds 2", "went 3", "ok", "went 4", "came 127", "went 1", "went 1", "rounds 1", "went 4", "went 0",
            "rounds 0"))
        self.assert_played(text)

    def test_no_deeds(self):
        story = Story(HEAD + "bed")
        self.assert_same(told(story=story), ())
        self.assert_same(played(story=story).bed.how_many(), 1)
        self.assert_played(story.text)

    def test_errors_of_deeds(self):
        names = played(Story(HEAD + "bed")).bed.tile_set.names()
        many = len(names)
        for line, kind, fields in (
                ("come 0 0 1", Taken, [(0, 0)]), ("slip 0 0 1", Taken, [(0, 0)]), ("come 5 5 1", Loose, [(5, 5), 0]),
                (f"come 5 5 {many}", BadNumber, ["tile", many]), (f"slip 0 0 {many}", BadNumber, ["tile", many]),
                ("slip -3 -3 999999", BadNumber, ["tile", 999999])):
            for ahead, said in (("", ()), ("grow 3\nwash\n", ("came 3", "went 0"))):
                story = Story(HEAD + "bed\n" + ahead + line + "\ngrow 5\n" + line)
                self.assert_error(kind, fields, played, story)
                self.assert_same(told(story), (*said, "error"))
        last = Story(HEAD + f"bed\nslip -3 -3 {many - 1}")
        self.assert_same((told(last), played(last).bed.at((-3, -3))), (("ok",), names[-1]))

    def test_cuts_across_the_seed(self):
        for line, went in (("cut 0 0 1 1", 0), ("cut -3 -3 10 10", 27), ("cell 0 0", 3), ("cut 0 0 2 2", 3),
                           ("cut -1 0 2 1", 0), ("cut 0 -5 1 9", 3), ("cut 0 0 0 5", 0), ("cut 3 3 5 0", 0),
                           ("cut -999999 -999999 999999 999999", 0)):
            story = Story(HEAD + "bed\ngrow 36\n" + line)
            self.assert_same(told(story), ("came 36", f"went {went}"))
            self.assertEqual(played(story).bed.how_many(), 37 - went)
            self.assertIsNotNone(played(story).bed.at((0, 0)))
            if "999999" not in line:
                self.assert_played(story.text)

    def test_a_cut_of_more_places_than_tiles(self):
        story = Story(HEAD + "bed\ngrow 999999\ncut -999999 -999999 999999 999999\ncut -2 -2 999999 999999")
        self.assert_same(told(story)[1:], ("went 0", told(story)[0].replace("came", "went")))

    def test_random_stories(self):
        found = [self.assert_played(text) for text in plain.random_stories(150, 214)]
        for error in (None, "Taken", "Loose", "BadNumber"):
            self.assertGreater(found.count(error), 3, error)

    def test_programs_that_do_not_end_with_400_rows(self):
        story = Story(f"values 0\n{ENDLESS}bed\ngrow 5\ncome 0 0 999999")
        self.assert_error(TooMany, ["rows", 401, 400], played, story)
        self.assert_error(TooMany, ["rows", 401, 400], told, story)
        # 2 * t + 2 rows, where the moment t is the first one that is over.
        text = "registers a\ncolours c\nat x\nifzero a y\ndec a\njump x\nat y\n"
        for values, more, rows in ((65, 1, 396), (65, 2, 398), (65, 3, 400), (65, 4, None), (66, 1, None)):
            more_orders = "clear a\n" * more
            story = Story(f"values {values}\n{text}{more_orders}bed\n")
            if rows is None:
                self.assert_error(TooMany, ["rows", 401, 400], played, story)
                self.assert_error(TooMany, ["rows", 401, 400], told, story)
            else:
                self.assertEqual(len(played(story).picture.labels), rows)
                self.assert_same(told(story), ())

    def test_the_world_is_new_each_time(self):
        story = Story(HEAD + "bed\ngrow 9")
        played(story).grow(5)
        self.assertEqual(played(story).bed.how_many(), 10)


class DrawnTest(TilesTest):
    def test_by_hand(self):
        text = "values 5,3,6\nregisters a b c\ncolours w\npaint w\nbed\n"
        self.assert_same(drawn(played(Story(text + "grow 999999"))), ("365",) * 4)
        self.assert_same(drawn(played(Story(text))), ("...",) * 4)
        self.assert_same(drawn(world=played(Story(text + "grow 999999\ncell 1 1\ncut 5 6 1 1\ncut 0 0 1 6"))),
                         ("36.", ".65", "..5", ".65"))

    def test_sums_of_one_to_three_digits(self):
        for names, values, row in (("a", "2", "01"), ("a b", "2,1", "21"), ("a b", "3,3", "33"),
                                   ("a b c", "1,0,2", "14"), ("a b c", "3,3,3", "77"), ("a b c", "0,1,2", "24"),
                                   ("a b c", "0,0,0", "00"), ("a", "0", "00"), ("a", "6", "011")):
            story = Story(f"values {values}\nregisters {names}\ncolours w\nbed\nrounds 99")
            self.assert_same(drawn(played(story)), (row, row))

    def test_rows_that_grow(self):
        story = Story("values 3\nregisters a\ncolours w\ninc a\nbed\nrounds 999")
        self.assert_same(drawn(played(story)), ("001", "001", "11", "11"))


if __name__ == "__main__":
    unittest.main()
