"""[80] to [84]: files, promises and the desk, by hand and in random rows of deeds."""

import random
import unittest

import desk_deeds
import plain_desk
from desk_deeds import NO_NAMES, Other, do
from helping import TilesTest
from plain_desk import PlainDesk
from test_programs import NO_STRINGS
from tilesregrow.desk import Desk
from tilesregrow.errors import (BadName, BadNumber, BadText, Loose, NoName, NotKept, NothingToRedo, NothingToUndo,
                                TakenName, TileError, TooMany)
from tilesregrow.story import Story
from tilesregrow.worlds import World

# Two rows of two cells: sixteen tiles, the seed among them.
TWO = "values 2\nregisters a\ncolours c\nbed\n"

A = "world a\n" + TWO

B = "world b\n" + TWO + "grow 99\n"

NO_LINES = (0, -1, True, None, 1.0, "1", (1,), 10 ** 9)

NOT_NAMES = (*NO_NAMES, "", "A", "a b", "a" * 13, "1a", "a\n")


class DeskTest(TilesTest):
    def desk(self, text=A + B):
        return Desk(text)

    def all_of(self, desk):
        return desk.lines(), desk.item_names(), desk.promises()

    def assert_nothing_changes(self, desk, kind, fields, action, *passed):
        """The call raises an error; nothing is otherwise, and nothing more can be undone or done again."""
        before = self.all_of(desk), desk._past, desk._future
        self.assert_error(kind, fields, action, *passed)
        self.assertEqual((self.all_of(desk), desk._past, desk._future), before)


class FilesTest(DeskTest):
    def test_no_items(self):
        for desk in (Desk(), Desk(""), Desk(text="")):
            self.assert_same((desk.lines(), desk.item_names(), desk.promises(), desk.broken()), ("", (), (), ()))
            self.assert_error(NothingToUndo, [], desk.undo)
            self.assert_error(NothingToRedo, [], desk.redo)

    def test_items(self):
        for text in (A + B, (A + B)[:-1]):
            desk = Desk(text)
            self.assert_same((desk.lines(), desk.item_names()), (A + B, ("a", "b")))
            self.assertIsInstance(desk.get_story("a"), Story)
            self.assert_same((desk.get_story("a").text, desk.get_story(name="b").text), (TWO, TWO + "grow 99\n"))
            self.assertIsInstance(desk.get_world("a"), World)
            self.assert_same((desk.get_world("a").is_whole(), desk.get_world(name="b").is_whole()), (False, True))
            self.assert_error(NothingToUndo, [], desk.undo)

    def test_worlds_are_played_anew(self):
        desk = self.desk()
        desk.get_world("a").grow(99)
        self.assert_same((desk.get_world("a").bed.how_many(), desk.holds("a whole")), (1, (False, None)))

    def test_wrong_lines(self):
        for text, line, column in (
                ("\n", 1, 1), ("x", 1, 1), (" world a\n", 1, 1), (TWO, 1, 1), ("\n" + A, 1, 1), ("world", 1, 2),
                ("world \n", 1, 2), ("world A\n", 1, 2), ("world a b\n" + TWO, 1, 3), ("world a \n" + TWO, 1, 3),
                (A + A, 6, 2), (A + B + "world b", 12, 2), (A + "world  a", 6, 2), (A + "world b c\n" + TWO, 6, 3),
                ("world a", 2, 1), ("world a\n", 2, 1), ("world a\nworld b\n" + TWO, 2, 1),
                (A[:-4] + B, 5, 1), (A[:-4], 5, 1), (A + "world b", 7, 1), (A + "\n", 6, 1), (A + "\n" + B, 6, 1),
                (A + "wash now", 6, 2), (A + "come 1 2", 6, 4), ("world a\nvalues 1\nregisters a\n" + B, 4, 1),
                (A + "bed\n" + B, 6, 1), ("world a\nvalues 1 2\nregisters\n" + B, 2, 3),
                # A wrong line `world` comes first, and then the items in their order.
                (A + "wrong\nworld b\nwrong\nworld a", 9, 2), (A + "wrong\nworld b\nwrong", 6, 1),
                ("world b\nvalues 5,\n" + A + "x\n", 2, 2)):
            self.assert_error(BadText, [line, column], Desk, text)
            desk = self.desk("world z\n" + TWO)
            self.assert_nothing_changes(desk, BadText, [line, column], desk.put, text)
        for text in NO_STRINGS:
            self.assert_error(BadText, [0, 0], Desk, text)
            self.assert_error(BadText, [0, 0], self.desk().put, text)

    def test_all_errors_of_an_item_come_ahead_of_those_of_the_next_one(self):
        endless = "values 1\nregisters a\ncolours c\nat x\njump x\nbed\n"
        broken, loose, wrong, many = "world p\nx\n", "world q\n" + TWO + "come 9 9 0\n", A + "slip 9 9 999\n", (
            "world r\nvalues 1,2\n" + TWO.split("\n", 1)[1])
        for text, kind, fields in (
                (loose + broken, Loose, [(9, 9), 0]), (broken + loose, BadText, [2, 1]),
                (wrong + loose, BadNumber, ["tile", 999]), (many + wrong, BadNumber, ["values", (1, 2)]),
                (B + "world t\n" + endless + broken, TooMany, ["rows", 401, 400]),
                (loose + many, Loose, [(9, 9), 0]), (B + many + loose, BadNumber, ["values", (1, 2)])):
            self.assert_error(kind, fields, Desk, text)
            desk = self.desk("")
            self.assert_nothing_changes(desk, kind, fields, desk.put, text)

    def test_put_looks_at_the_items_in_the_order_of_the_desk(self):
        desk = self.desk()
        loose = TWO + "come 9 9 0\n"
        text = "world c\nx\nworld b\n" + loose + "world a\n" + TWO + "y\n"
        # a lies ahead of b, and c comes behind it.
        self.assert_nothing_changes(desk, BadText, [14, 1], desk.put, text)
        self.assert_nothing_changes(desk, Loose, [(9, 9), 0], desk.put, text[:-2])
        self.assert_nothing_changes(desk, BadText, [2, 1], desk.put, text[:-2].replace("come 9 9 0\n", ""))


class PromisesTest(DeskTest):
    def test_each_kind(self):
        desk = self.desk(A + B + "world c\n" + TWO + "grow 5\nslip 9 9 0\n" + "world d\n" + TWO + "grow 99\ncell 1 0\n"
                         + "world e\nvalues 2\nregisters a\ncolours d\nbed\ngrow 99\n"
                         + "world f\nvalues 1\nregisters a\ncolours c\ninc a\nbed\ngrow 999\n")
        for promise, told in (
                ("a right", (True, None)), ("c right", (False, ((9, 9),))), ("b right", (True, None)),
                ("a whole", (False, None)), ("b whole", (True, None)), ("d whole", (False, None)),
                ("c whole", (False, None)),
                ("a lacks 14", (False, 15)), ("a lacks 15", (True, None)), ("b lacks 0", (True, None)),
                ("d lacks 3", (False, 4)), ("d lacks 4", (True, None)), ("c lacks 000000", (False, 10)),
                ("b tells 0 2", (True, None)), ("b tells 0 002", (True, None)), ("b tells 0 3", (False, (2,))),
                ("b tells 1 2", (False, None)), ("b tells 999999 2", (False, None)), ("a tells 0 2", (False, None)),
                ("b tells 0 2,2", (False, (2,))), ("d tells 0 2", (True, None)), ("f tells 0 1", (True, None)),
                ("f tells 1 2", (True, None)), ("f tells 1 1", (False, (2,))), ("f tells 2 2", (False, None)),
                ("a heals 9", (True, None)), ("a heals 8", (False, None)), ("b heals 0", (True, None)),
                ("c heals 999999", (True, None)), ("c heals 0", (False, None)), ("d heals 8", (True, None)),
                ("a like a", (True, None)), ("a like b", (False, None)), ("b like e", (False, None)),
                ("f like f", (True, None)), ("a like f", (False, None))):
            self.assert_same(desk.holds(promise), told)
            if told[0]:
                desk.keep(promise)
            else:
                self.assert_nothing_changes(desk, NotKept, [promise, told[1]], desk.keep, promise)
        self.assert_same(desk.broken(), ())
        self.assert_same(desk.holds(promise="a right"), (True, None))

    def test_alike_by_other_deeds(self):
        desk = self.desk(A + "rounds 2\n" + "world b\n" + TWO + "grow 7\ncut 2 1 9 9\ncut 3 0 1 1\n")
        self.assertEqual(desk.get_world("a").bed.pairs(), desk.get_world("b").bed.pairs())
        self.assert_same(desk.holds("a like b"), (True, None))
        desk.keep("a like b")
        self.assert_nothing_changes(desk, NotKept, ["a like b", None], desk.add, "a", "rounds 1")
        desk.attempt(lambda held: (held.add("a", "rounds 9"), held.add("b", "grow 99")))
        self.assert_same(desk.broken(), ())

    def test_wrong_words(self):
        desk = self.desk()
        for promise, column in (
                ("", 1), (" ", 1), (" a right", 1), ("A right", 1), ("5 right", 1), ("a\n right", 1), ("\n", 1),
                ("a" * 13 + " right", 1), ("a", 2), ("a ", 2), ("a  right", 2), ("a Right", 2), ("a wrong", 2),
                ("a right\n", 2), ("a right ", 3), ("a right x", 3), ("a whole 1", 3), ("a lacks", 3), ("a lacks ", 3),
                ("a lacks -1", 3), ("a lacks x", 3), ("a lacks 1234567", 3), ("a lacks 1,2", 3), ("a lacks 1 2", 4),
                ("a tells", 3), ("a tells 1", 4), ("a tells 1 ", 4), ("a tells 1 1,", 4), ("a tells -1 1", 3),
                ("a tells 1 -1", 4), ("a tells 1 1 1", 5), ("a tells 1,1 1", 3), ("a heals", 3), ("a heals 1\n", 3),
                ("a heals 1 1", 4), ("a like", 3), ("a like B", 3), ("a like b c", 4), ("a like b\n", 3),
                ("zz like B", 3), ("zz wrong", 2), ("zz lacks -1", 3)):
            self.assert_nothing_changes(desk, BadText, [1, column], desk.keep, promise)
            self.assert_nothing_changes(desk, BadText, [1, column], desk.holds, promise)
        for promise in NO_STRINGS:
            for method in (desk.keep, desk.holds, desk.release):
                self.assert_nothing_changes(desk, BadText, [0, 0], method, promise)

    def test_names_that_are_none(self):
        desk = self.desk()
        for promise, name in (("c right", "c"), ("c like d", "c"), ("a like d", "d"), ("d like a", "d"),
                              ("right right", "right"), ("c tells 0 1", "c"), ("c like c", "c")):
            self.assert_nothing_changes(desk, NoName, [name], desk.keep, promise)
            self.assert_nothing_changes(desk, NoName, [name], desk.holds, promise)
            self.assert_nothing_changes(desk, NoName, [promise], desk.release, promise)


class EditsTest(DeskTest):
    def test_put(self):
        desk = self.desk()
        other = "world b\n" + TWO + "grow 3\nworld c\n" + TWO
        desk.put(text=other)
        self.assert_same(desk.lines(), A + other)
        desk.put("world c\n" + TWO + "wash\nworld a\n" + TWO + "rounds 1")
        self.assert_same(desk.lines(), A + "rounds 1\nworld b\n" + TWO + "grow 3\nworld c\n" + TWO + "wash\n")
        self.assert_same(desk.get_world("b").bed.how_many(), 4)
        desk.put("")
        desk.undo()
        self.assertEqual(desk.item_names(), ("a", "b", "c"))
        desk.undo()
        self.assert_same(desk.lines(), A + other)

    def test_drop(self):
        desk = self.desk(A + B + "world c\n" + TWO)
        for promise in ("a right", "a like c", "c like a", "c right", "b whole", "b like b"):
            desk.keep(promise)
        desk.drop(name="a")
        self.assert_same((desk.item_names(), desk.promises()), (("b", "c"), ("c right", "b whole", "b like b")))
        desk.undo()
        self.assert_same((desk.item_names(), len(desk.promises())), (("a", "b", "c"), 6))
        self.assert_nothing_changes(desk, NoName, ["d"], desk.drop, "d")
        for name in NO_NAMES:
            for method in (desk.drop, desk.get_story, desk.get_world):
                self.assert_nothing_changes(desk, BadName, [name], method, name)
        for name in ("", "A", "d"):
            for method in (desk.drop, desk.get_story, desk.get_world):
                self.assert_nothing_changes(desk, NoName, [name], method, name)

    def test_rename(self):
        desk = self.desk(A + B + "world c\n" + TWO)
        for promise in ("a right", "a like c", "c like a", "a like a", "b tells 0 2", "c lacks 99"):
            desk.keep(promise)
        desk.rename(new="right", name="a")
        self.assert_same(desk.item_names(), ("right", "b", "c"))
        self.assert_same(desk.promises(), ("right right", "right like c", "c like right", "right like right",
                                           "b tells 0 2", "c lacks 99"))
        self.assert_same(desk.lines(), A.replace("world a", "world right") + B + "world c\n" + TWO)
        desk.rename("c", "a")
        self.assert_same(desk.promises()[1:3], ("right like a", "a like right"))
        desk.undo()
        desk.undo()
        self.assert_same((desk.item_names(), desk.promises()[0]), (("a", "b", "c"), "a right"))

    def test_errors_of_rename(self):
        desk = self.desk()
        for new in NOT_NAMES:
            for name in ("a", "zz", None):
                self.assert_nothing_changes(desk, BadName, [new], desk.rename, name, new)
        for name in NO_NAMES:
            self.assert_nothing_changes(desk, BadName, [name], desk.rename, name, "b")
        for name in ("zz", "", "A"):
            self.assert_nothing_changes(desk, NoName, [name], desk.rename, name, "b")
        for new in ("a", "b"):
            self.assert_nothing_changes(desk, TakenName, [new], desk.rename, "a", new)

    def test_edit(self):
        desk = self.desk(B)
        for number, text, lines in (
                (1, "values 3", "values 3\n" + TWO[9:] + "grow 99\n"), (5, "grow 5", TWO + "grow 5\n"),
                (5, "grow 5\nwash\n", TWO + "grow 5\nwash\n"), (5, "", TWO), (6, "wash", TWO + "grow 99\nwash\n"),
                (6, "", TWO + "grow 99\n"), (3, "colours c d\ninc a\n", TWO.replace("c\n", "c d\ninc a\n")
                                             + "grow 99\n"), (4, "clear a\nbed\nrounds 1", TWO[:-4]
                                                              + "clear a\nbed\nrounds 1\ngrow 99\n")):
            desk.edit("b", number, text)
            self.assert_same(desk.lines(), "world b\n" + lines)
            self.assert_same(desk.get_story("b").text, lines)
            desk.undo()
            self.assert_same(desk.lines(), B)
        desk.edit(text="wash", number=6, name="b")
        desk.add("b", "wash\nrounds 3\n")
        desk.add(text="", name="b")
        self.assert_same(desk.lines(), B + "wash\nwash\nrounds 3\n")

    def test_errors_of_edit(self):
        desk = self.desk(A + B)
        for name in NO_NAMES:
            for number in (1, None):
                for text in ("wash", None, "world"):
                    self.assert_nothing_changes(desk, BadName, [name], desk.edit, name, number, text)
                    self.assert_nothing_changes(desk, BadName, [name], desk.add, name, text)
        for text in NO_STRINGS:
            for name in ("a", "zz"):
                self.assert_nothing_changes(desk, BadText, [0, 0], desk.edit, name, 99, text)
                self.assert_nothing_changes(desk, BadText, [0, 0], desk.add, name, text)
        for name in ("zz", ""):
            self.assert_nothing_changes(desk, NoName, [name], desk.edit, name, 99, "world")
            self.assert_nothing_changes(desk, NoName, [name], desk.add, name, "world")
        for number in (*NO_LINES, 6):
            self.assert_nothing_changes(desk, BadNumber, ["line", number], desk.edit, "a", number, "world")
        for name, number, text, line, column in (
                ("a", 5, "world", 5, 1), ("a", 1, "wrong\nworld a\nworld", 2, 1), ("a", 3, "x\ny\nworld b", 5, 1),
                ("b", 2, "world b\nx", 2, 1), ("a", 5, "worlds", 5, 1), ("a", 5, "\n", 5, 1), ("a", 5, " world", 5, 1),
                ("a", 4, "", 4, 1), ("a", 4, "grow 1", 4, 1), ("a", 1, "", 1, 1), ("a", 2, "registers a b c d", 2, 5),
                ("b", 5, "wash 1", 5, 2), ("b", 6, "grow 1\ncome 1 1 -1", 7, 4), ("b", 3, "", 3, 1),
                ("a", 1, "values 1\nregisters a\ncolours c\nbed", 5, 1)):
            self.assert_nothing_changes(desk, BadText, [line, column], desk.edit, name, number, text)
        self.assert_nothing_changes(desk, BadText, [6, 1], desk.add, "b", "world x")
        self.assert_nothing_changes(desk, BadText, [7, 2], desk.add, "b", "wash\nwash x")
        self.assert_nothing_changes(desk, BadNumber, ["values", (1, 2)], desk.edit, "a", 1, "values 1,2")
        self.assert_nothing_changes(desk, BadNumber, ["tile", 999], desk.add, "b", "slip 5 5 999")
        self.assert_nothing_changes(desk, Loose, [(5, 5), 0], desk.add, "b", "come 5 5 0")
        self.assert_nothing_changes(desk, TooMany, ["rows", 401, 400], desk.edit, "a", 4, "at x\njump x\nbed")

    def test_an_item_that_loses_all_its_lines(self):
        desk = self.desk(A)
        # Each line is needed, so that no row of edits can take the last one away.
        for number in (1, 2, 3, 4):
            with self.assertRaises(BadText):
                desk.edit("a", number, "")

    def test_keep_and_release(self):
        desk = self.desk()
        desk.keep("a right")
        desk.keep(promise="b whole")
        desk.keep("a right")
        self.assert_same(desk.promises(), ("a right", "b whole"))
        desk.undo()
        self.assert_same(desk.promises(), ("a right", "b whole"))
        desk.undo()
        self.assert_same(desk.promises(), ("a right",))
        desk.redo()
        desk.release(promise="a right")
        self.assert_same(desk.promises(), ("b whole",))
        self.assert_nothing_changes(desk, NoName, ["a right"], desk.release, "a right")
        self.assert_nothing_changes(desk, NoName, ["?"], desk.release, "?")

    def test_promises_that_an_edit_does_not_keep(self):
        desk = self.desk(A + B)
        for promise in ("a right", "b lacks 3", "b whole", "a like a", "b heals 0"):
            desk.keep(promise)
        for action, passed, promise, witness in (
                (desk.edit, ("b", 5, "grow 3"), "b lacks 3", 12), (desk.add, ("b", "cell 1 0"), "b lacks 3", 4),
                (desk.add, ("b", "cut 3 0 1 1"), "b whole", None), (desk.add, ("a", "slip 9 9 0"), "a right", ((9, 9),)),
                (desk.put, (A + "slip 5 5 0\nslip 5 6 0\nworld b\n" + TWO,), "a right", ((5, 5), (5, 6))),
                (desk.put, ("world b\n" + TWO,), "b lacks 3", 15), (desk.add, ("b", "slip 9 9 0"), "b whole", None),
                (desk.keep, ("a whole",), "a whole", None), (desk.keep, ("b tells 0 3",), "b tells 0 3", (2,))):
            self.assert_nothing_changes(desk, NotKept, [promise, witness], action, *passed)
        desk.drop("a")
        desk.put(A + "slip 9 9 0")
        self.assert_same(desk.broken(), ())


class UndoTest(DeskTest):
    def test_rows_of_edits(self):
        desk = self.desk()
        states = [self.all_of(desk)]
        for edit in (lambda: desk.keep("a right"), lambda: desk.add("a", "grow 3"), lambda: desk.rename("a", "z"),
                     lambda: desk.put("world c\n" + TWO), lambda: desk.put(""), lambda: desk.drop("b"),
                     lambda: desk.edit("z", 5, "rounds 2"), lambda: desk.keep("z right"),
                     lambda: desk.release("z right"), lambda: desk.attempt(lambda held: None)):
            edit()
            states.append(self.all_of(desk))
        for _ in range(2):
            for state in states[-2::-1]:
                self.assertIsNone(desk.undo())
                self.assertEqual(self.all_of(desk), state)
            self.assert_nothing_changes(desk, NothingToUndo, [], desk.undo)
            for state in states[1:]:
                self.assertIsNone(desk.redo())
                self.assertEqual(self.all_of(desk), state)
            self.assert_nothing_changes(desk, NothingToRedo, [], desk.redo)

    def test_an_edit_ends_what_can_be_done_again(self):
        for edit in (lambda desk: desk.put(""), lambda desk: desk.keep("a right"),
                     lambda desk: desk.attempt(lambda held: 1), lambda desk: desk.add("a", "")):
            desk = self.desk()
            desk.add("a", "grow 1")
            desk.add("a", "grow 2")
            desk.undo()
            edit(desk)
            self.assert_nothing_changes(desk, NothingToRedo, [], desk.redo)
            desk.undo()
            desk.undo()
            self.assert_same(desk.lines(), A + B)

    def test_what_is_no_edit_ends_nothing(self):
        desk = self.desk()
        desk.add("a", "grow 1")
        desk.undo()
        desk.trial(lambda held: held.drop("a"))
        desk.holds("a right"), desk.broken(), desk.get_world("a"), desk.lines()
        self.assert_error(BadText, [5, 1], desk.add, "a", "x")
        with self.assertRaises(Other):
            desk.attempt(failing(Other()))
        desk.redo()
        self.assert_same(desk.lines(), A + "grow 1\n" + B)

    def test_undo_looks_at_no_promises(self):
        desk = self.desk(A)
        desk.add("a", "grow 99")
        desk.keep("a whole")
        desk.undo()
        desk.undo()
        self.assert_same((desk.lines(), desk.promises()), (A, ()))
        desk.redo()
        desk.redo()
        self.assert_same((desk.lines(), desk.promises(), desk.broken()), (A + "grow 99\n", ("a whole",), ()))


def failing(error):
    def action(desk):
        desk.put("world z\n" + TWO)
        raise error
    return action


class AttemptsTest(DeskTest):
    def test_an_attempt_is_one_edit(self):
        desk = self.desk()

        def action(held):
            self.assertIs(held, desk)
            held.add("a", "grow 3")
            desk.keep("a right")
            held.rename("b", "c")
            return ("what", 5)

        self.assert_same(desk.attempt(action=action), ("what", 5))
        behind = self.all_of(desk)
        self.assert_same((desk.item_names(), desk.promises()), (("a", "c"), ("a right",)))
        desk.undo()
        self.assert_same(self.all_of(desk), (A + B, ("a", "b"), ()))
        self.assert_error(NothingToUndo, [], desk.undo)
        desk.redo()
        self.assertEqual(self.all_of(desk), behind)

    def test_promises_are_looked_at_when_it_ends(self):
        desk = self.desk()
        desk.keep("b whole")
        desk.keep("a right")

        def action(held):
            held.edit("b", 5, "grow 3")
            self.assert_same((held.holds("b whole"), held.broken()), ((False, None), (("b whole", None),)))
            # Here no promise that is made needs to be kept.
            held.keep("b lacks 0")
            held.keep("a whole")
            self.assert_same(held.broken(), (("b whole", None), ("b lacks 0", 12), ("a whole", None)))
            self.assert_error(NoName, ["zz"], held.keep, "zz right")
            self.assert_error(BadText, [1, 2], held.keep, "a")

        self.assert_nothing_changes(desk, NotKept, ["b whole", None], desk.attempt, action)

        def mended(held):
            action(held)
            held.edit("b", 5, "grow 99")
            held.release("a whole")

        desk.attempt(mended)
        self.assert_same((desk.promises(), desk.broken()), (("b whole", "a right", "b lacks 0"), ()))

    def test_attempts_that_end_with_errors(self):
        desk = self.desk()
        desk.add("a", "grow 1")
        desk.undo()
        for error in (Other(), ZeroDivisionError(), NoName("x"), KeyError(1), KeyboardInterrupt(), SystemExit()):
            for method in (desk.attempt, desk.trial):
                before = self.all_of(desk)
                with self.assertRaises(error.__class__) as held:
                    method(failing(error))
                self.assertIs(held.exception, error)
                self.assertEqual(self.all_of(desk), before)
        with self.assertRaises(TypeError):
            desk.attempt(5)
        desk.redo()
        self.assert_same(desk.lines(), A + "grow 1\n" + B)
        # Promises are looked at again: no attempt is open.
        desk.keep("b whole")
        self.assert_nothing_changes(desk, NotKept, ["b whole", None], desk.edit, "b", 5, "")

    def test_undo_and_redo_within(self):
        desk = self.desk()
        desk.add("a", "grow 1")
        desk.add("a", "grow 2")
        desk.undo()

        def action(held):
            self.assert_error(NothingToUndo, [], held.undo)
            self.assert_error(NothingToRedo, [], held.redo)
            held.add("b", "wash")
            held.add("b", "rounds 5")
            held.undo()
            self.assert_same(held.lines(), A + "grow 1\n" + B + "wash\n")
            held.redo()
            held.undo()
            held.undo()
            self.assert_error(NothingToUndo, [], held.undo)
            held.redo()
            return held.lines()

        lines = desk.trial(action=action)
        self.assert_same(lines, A + "grow 1\n" + B + "wash\n")
        self.assert_same(desk.lines(), A + "grow 1\n" + B)
        desk.redo()
        desk.undo()
        self.assert_same(desk.attempt(action), lines)
        self.assert_same(desk.lines(), lines)
        self.assert_error(NothingToRedo, [], desk.redo)
        desk.undo()
        self.assert_same(desk.lines(), A + "grow 1\n" + B)
        desk.undo()
        self.assert_same(desk.lines(), A + B)

    def test_attempts_and_trials_within(self):
        desk = self.desk()
        desk.keep("b whole")

        def inner(held):
            held.add("b", "cell 1 0")
            held.drop("a")

        def action(held):
            held.attempt(inner)
            self.assert_same((held.item_names(), held.broken()), (("b",), (("b whole", None),)))
            held.undo()
            self.assert_same((held.item_names(), held.broken()), (("a", "b"), ()))
            held.redo()
            self.assert_same(held.trial(lambda own: (own.drop("b"), own.item_names(), own.promises())),
                             (None, (), ()))
            with self.assertRaises(Other):
                held.attempt(failing(Other()))
            self.assert_same((held.item_names(), held.promises()), (("b",), ("b whole",)))
            held.undo()
            self.assert_error(NothingToUndo, [], held.undo)
            held.redo()
            held.attempt(lambda own: own.add("b", "grow 9"))

        desk.attempt(action)
        self.assert_same(desk.lines(), B + "cell 1 0\ngrow 9\n")
        desk.undo()
        self.assert_same((desk.lines(), desk.promises()), (A + B, ("b whole",)))
        self.assert_nothing_changes(desk, NotKept, ["b whole", None], desk.attempt, lambda held: held.attempt(inner))
        self.assertIsNone(desk.trial(lambda held: held.attempt(inner)))

    def test_an_attempt_that_changes_nothing(self):
        desk = self.desk()
        self.assertIsNone(desk.attempt(lambda held: None))
        desk.undo()
        self.assert_error(NothingToUndo, [], desk.undo)
        self.assertIsNone(desk.trial(lambda held: None))
        desk.redo()


class RandomDeedsTest(TilesTest):
    def assert_same_desks(self, desk, plain):
        self.assert_same((desk.lines(), desk.item_names(), desk.promises(), desk.broken()),
                         (plain.lines(), plain.item_names(), plain.promises(), plain.broken()))

    def test_rows_of_deeds(self):
        rng = random.Random(221)
        kinds = {}
        for _ in range(150):
            text = desk_deeds.file_text(rng, many=rng.choice((0, 1, 2, 3, 3)))
            desk = plain = None
            try:
                plain = PlainDesk(text)
            except plain_desk.Wrong as error:
                with self.assertRaises(TileError) as held:
                    Desk(text)
                self.assertEqual(desk_deeds.told_error(held.exception), error.told)
                continue
            desk = Desk(text)
            for _ in range(40):
                deed = desk_deeds.task(rng, plain)
                logs = [], []
                do(desk, deed, logs[0])
                do(plain, deed, logs[1])
                self.assertEqual(logs[0], logs[1])
                self.assertEqual(repr(logs[0]), repr(logs[1]))
                self.assert_same_desks(desk, plain)
                for one in logs[1]:
                    if isinstance(one, tuple) and one and isinstance(one[0], str):
                        kinds[one[0]] = kinds.get(one[0], 0) + 1
        for kind in ("BadText", "BadName", "BadNumber", "NoName", "TakenName", "NotKept", "NothingToUndo",
                     "NothingToRedo", "Taken", "Other", "result"):
            self.assertGreater(kinds.get(kind, 0), 5, kind)


if __name__ == "__main__":
    unittest.main()
