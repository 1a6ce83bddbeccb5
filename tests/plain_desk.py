"""What the document tells of desks, written once more as plainly as it is told there: a desk copies all it has."""

import copy
import re

import plain_story
from plain_compiling import values_of
from plain_programs import NAME, lines_of

NUMBERS = re.compile(r"[0-9]{1,6}(,[0-9]{1,6})*\Z")
N = re.compile(r"[0-9]{1,6}\Z")

FORMS = {"right": [], "whole": [], "lacks": [N], "tells": [N, NUMBERS], "heals": [N], "like": [NAME]}


class Wrong(Exception):
    """An error of the package: the name of its class, and its fields."""

    def __init__(self, kind, *fields):
        self.told = (kind, *fields)


PLAYED = {}


def played(text):
    """The plain world of a story without errors in its text."""
    if text not in PLAYED:
        program, numbers, _ = plain_story.parts(text)
        if len(numbers) != len(program.split("\n")[0].split(" ")) - 1:
            PLAYED[text] = ["BadNumber", "values", numbers]
        else:
            story = plain_story.PlainStory(text)
            if story.world.letters is None:
                PLAYED[text] = ["TooMany", "rows", 401, 400]
            else:
                error = story.play()[1]
                PLAYED[text] = story.world if error is None else error
    if isinstance(PLAYED[text], list):
        raise Wrong(*PLAYED[text])
    return PLAYED[text]


def check_item(lines, above):
    text = "".join(line + "\n" for line in lines)
    wrong = plain_story.wrong_at(text)
    if wrong is not None:
        raise Wrong("BadText", wrong[0] + above, wrong[1])
    played(text)


def parts_of(text):
    """The list of the triples (name, number of the line `world`, lines) of a file."""
    if not isinstance(text, str):
        raise Wrong("BadText", 0, 0)
    found = []
    for number, line in enumerate(lines_of(text), start=1):
        words = line.split(" ")
        if words[0] != "world":
            if not found:
                raise Wrong("BadText", number, 1)
            found[-1][2].append(line)
            continue
        if len(words) == 1 or not NAME.match(words[1]) or words[1] in [part[0] for part in found]:
            raise Wrong("BadText", number, 2)
        if len(words) > 2:
            raise Wrong("BadText", number, 3)
        found.append((words[1], number, []))
    return found


def read_promise(promise, names):
    """The words of a right promise about items of these names."""
    if not isinstance(promise, str):
        raise Wrong("BadText", 0, 0)
    words = promise.split(" ")
    if not NAME.match(words[0]):
        raise Wrong("BadText", 1, 1)
    if len(words) == 1 or words[1] not in FORMS:
        raise Wrong("BadText", 1, 2)
    column = plain_story.wrong_form(words[1:], FORMS[words[1]])
    if column is not None:
        raise Wrong("BadText", 1, column + 1)
    for name in [words[0]] + ([words[2]] if words[1] == "like" else []):
        if name not in names:
            raise Wrong("NoName", name)
    return words


class PlainDesk:
    def __init__(self, text=""):
        self.items = {}
        self.made = []
        self.past, self.future = [], []
        self.depth = 0
        self.items = self.behind_put(text)

    def text_of(self, name):
        return "".join(line + "\n" for line in self.items[name])

    def world_of(self, name):
        return played(self.text_of(name))

    def behind_put(self, text):
        items = copy.deepcopy(self.items)
        lines = {}
        for name, number, told in parts_of(text):
            items[name] = told
            lines[name] = number
        for name in items:
            if name in lines:
                check_item(items[name], lines[name])
        return items

    def check_name(self, name):
        if not isinstance(name, str):
            raise Wrong("BadName", name)
        if name not in self.items:
            raise Wrong("NoName", name)

    def lines(self):
        return "".join(f"world {name}\n{self.text_of(name)}" for name in self.items)

    def item_names(self):
        return tuple(self.items)

    def get_story(self, name):
        self.check_name(name)
        return self.text_of(name)

    def get_world(self, name):
        self.check_name(name)
        return self.world_of(name).bed.pairs()

    def put(self, text):
        self.change(self.behind_put(text), self.made)

    def edit(self, name, number, text):
        if not isinstance(name, str):
            raise Wrong("BadName", name)
        if not isinstance(text, str):
            raise Wrong("BadText", 0, 0)
        self.check_name(name)
        lines = list(self.items[name])
        if type(number) is not int or number not in range(1, len(lines) + 2):
            raise Wrong("BadNumber", "line", number)
        fresh = lines_of(text)
        for at, line in enumerate(fresh):
            if line.split(" ")[0] == "world":
                raise Wrong("BadText", number + at, 1)
        if number <= len(lines):
            del lines[number - 1]
        for at, line in enumerate(fresh):
            lines.insert(number - 1 + at, line)
        check_item(lines, 0)
        self.change({**self.items, name: lines}, self.made)

    def add(self, name, text):
        if isinstance(name, str) and isinstance(text, str):
            self.check_name(name)
        self.edit(name, len(self.items[name]) + 1 if isinstance(name, str) and name in self.items else 1, text)

    def drop(self, name):
        self.check_name(name)
        made = [promise for promise in self.made if name not in self.names_in(promise)]
        self.change({other: lines for other, lines in self.items.items() if other != name}, made)

    def names_in(self, promise):
        words = promise.split(" ")
        return [words[0], words[2]] if words[1] == "like" else [words[0]]

    def rename(self, name, new):
        if not isinstance(new, str) or not NAME.match(new):
            raise Wrong("BadName", new)
        self.check_name(name)
        if new in self.items:
            raise Wrong("TakenName", new)
        made = []
        for promise in self.made:
            words = promise.split(" ")
            if words[0] == name:
                words[0] = new
            if words[1] == "like" and words[2] == name:
                words[2] = new
            made.append(" ".join(words))
        self.change({new if other == name else other: lines for other, lines in self.items.items()}, made)

    def keep(self, promise):
        read_promise(promise, self.items)
        self.change(self.items, self.made + [promise] * (promise not in self.made))

    def release(self, promise):
        if not isinstance(promise, str):
            raise Wrong("BadText", 0, 0)
        if promise not in self.made:
            raise Wrong("NoName", promise)
        self.change(self.items, [other for other in self.made if other != promise])

    def promises(self):
        return tuple(self.made)

    def holds(self, promise):
        words = read_promise(promise, self.items)
        world = self.world_of(words[0])
        if words[1] == "right":
            kept, witness = world.wrong() == (), world.wrong()
        elif words[1] == "whole":
            kept, witness = world.wrong() == world.lacking() == (), None
        elif words[1] == "lacks":
            witness = len(world.lacking())
            kept = witness <= int(words[2])
        elif words[1] == "tells":
            row = world.rows()[2 * int(words[2]) + 1:][:1]
            witness = values_of(row[0]) if row and None not in row[0] else None
            kept = witness == tuple(int(word) for word in words[3].split(","))
        elif words[1] == "heals":
            other = copy.copy(world)
            other.bed = world.bed.twin()
            other.do("wash")
            other.do("rounds", int(words[2]))
            kept, witness = other.wrong() == other.lacking() == (), None
        else:
            two = self.world_of(words[2])
            kept = (set(world.bed.tile_set.names()) == set(two.bed.tile_set.names())
                    and world.bed.pairs() == two.bed.pairs())
            witness = None
        return (True, None) if kept else (False, witness)

    def broken(self):
        return tuple((promise, self.holds(promise)[1]) for promise in self.made if not self.holds(promise)[0])

    def state(self):
        return copy.deepcopy((self.items, self.made))

    def change(self, items, made):
        ahead = self.state()
        self.items, self.made = copy.deepcopy(items), list(made)
        if self.depth == 0 and self.broken():
            promise, witness = self.broken()[0]
            self.items, self.made = ahead
            raise Wrong("NotKept", promise, witness)
        self.past.append(ahead)
        self.future = []

    def undo(self):
        if not self.past:
            raise Wrong("NothingToUndo")
        self.future.append(self.state())
        self.items, self.made = self.past.pop()

    def redo(self):
        if not self.future:
            raise Wrong("NothingToRedo")
        self.past.append(self.state())
        self.items, self.made = self.future.pop()

    def within(self, action):
        """The result of an action, and all that the desk has behind it; the desk is as it was ahead."""
        ahead = copy.deepcopy((self.items, self.made, self.past, self.future, self.depth))
        self.past, self.future, self.depth = [], [], self.depth + 1
        try:
            return action(self), self.state()
        finally:
            self.items, self.made, self.past, self.future, self.depth = ahead

    def attempt(self, action):
        result, (items, made) = self.within(action)
        self.change(items, made)
        return result

    def trial(self, action):
        return self.within(action)[0]
