"""Machines of sweeps, which make each row of letters from the row below by one walk along it."""

from tilesregrow.classes import classes_of
from tilesregrow.directions import OTHER_DIRECTION, in_order, is_direction
from tilesregrow.errors import BadName, BadNumber, BadTile, TooMany
from tilesregrow.graphs import Graph, parting_inputs, words_along
from tilesregrow.kinds import by_repr, is_integer, is_list, is_symbol, is_tuple_of
from tilesregrow.reaches import Reach


class Sweeps:
    """A machine of sweeps."""

    def __init__(self, first, begin, steps, turns):
        if not is_first(first):
            raise BadTile(first)
        if not is_symbol(begin):
            raise BadTile(begin)
        if not are_steps(steps):
            raise BadTile(steps)
        if not are_turns(turns):
            raise BadTile(turns)
        reach = Reach(first, begin, steps, turns)
        if reach.missing:
            raise BadTile(min(reach.missing, key=lambda key: repr(key)))
        self.first = first
        self.begin = begin
        self.steps = {key: steps[key] for key in steps}
        self.turns = {key: turns[key] for key in turns}
        self.letters = by_repr(reach.letters)
        self.states = {direction: by_repr(reach.states[direction]) for direction in reach.states}


def is_first(first):
    """Whether a value can be a row 0."""
    return isinstance(first, tuple) and len(first) >= 2 and all([is_symbol(letter) for letter in first])


def are_steps(steps):
    """Whether a value is a dict from triples (direction, state, letter) to pairs (state, letter)."""
    return isinstance(steps, dict) and all([is_step(key, steps[key]) for key in steps])


def is_step(key, told):
    if not is_tuple_of(3, key) or not is_tuple_of(2, told) or not is_direction(key[0]):
        return False
    return is_symbol(key[1]) and is_symbol(key[2]) and is_symbol(told[0]) and is_symbol(told[1])


def are_turns(turns):
    """Whether a value is a dict from pairs (direction, state) to None or to pairs (state, extra letter or None)."""
    return isinstance(turns, dict) and all([is_turn(key, turns[key]) for key in turns])


def is_turn(key, told):
    if not is_tuple_of(2, key) or not is_direction(key[0]) or not is_symbol(key[1]):
        return False
    if told is None:
        return True
    if not is_tuple_of(2, told) or not is_symbol(told[0]):
        return False
    return told[1] is None or (key[0] == "r" and is_symbol(told[1]))


def letters_of(sweeps):
    """The tuple of the letters of a machine, by their repr."""
    return sweeps.letters


def states_of(sweeps, direction):
    """The tuple of the states that can come in this direction, by their repr."""
    if not is_direction(direction):
        raise BadName(direction)
    return sweeps.states[direction]


class Walker:
    """A machine on its way; its state is None when the whole is ended."""

    def __init__(self, sweeps):
        self._sweeps = sweeps
        self.direction = "l"
        self.state = sweeps.begin

    def sweep(self, word):
        """Walk along a word, and turn; returns the letters written, from left to right, and what the turn tells.

        That is the extra letter, or None, in a tuple of one, or None if the turn ends the whole.
        """
        state = self.state
        written = []
        for letter in in_order(self.direction, word):
            state, above = self._sweeps.steps[(self.direction, state, letter)]
            written.append(above)
        # The turn changes the direction, so that the row is told ahead of it.
        row = in_order(self.direction, written)
        return (row, self._turn(state))

    def _turn(self, state):
        turn = self._sweeps.turns[(self.direction, state)]
        self.direction = OTHER_DIRECTION[self.direction]
        if turn is None:
            self.state = None
            return None
        self.state, extra = turn
        return (extra,)


def run(sweeps, most):
    """The tuple of the rows of a machine, row 0 first."""
    if not is_integer(most) or most < 1:
        raise BadNumber("most", most)
    walker = Walker(sweeps)
    rows = [sweeps.first]
    while walker.state is not None:
        if len(rows) == most:
            raise TooMany("rows", most + 1, most)
        written, told = walker.sweep(rows[-1])
        rows.append(written if told is None or told[0] is None else written + told)
    return tuple(rows)


def are_words(sweeps, words):
    """Whether a value is a list of tuples of letters of the machine."""
    if not is_list(words) or not all([isinstance(word, tuple) for word in words]):
        return False
    own = {letter: True for letter in sweeps.letters}
    return all([is_symbol(letter) and letter in own for word in words for letter in word])


def fed(sweeps, words):
    """What each sweep writes and tells if it is fed a word in the place of the row below it."""
    if not are_words(sweeps, words):
        raise BadTile(words)
    walker = Walker(sweeps)
    found = []
    for word in words:
        if walker.state is None:
            break
        found.append(walker.sweep(word))
    return tuple(found)


def parted(one, two):
    """None if no words tell two machines apart, otherwise a tuple of words that do."""
    if one.letters != two.letters:
        raise BadTile(two)
    inputs = parting_inputs(Graph(one), Graph(two))
    return None if inputs is None else words_along(one.letters, inputs)


def classes_by_node(sweeps):
    """A dict from each pair (direction, state that can come) to the number of its class."""
    graph = Graph(sweeps)
    numbers = classes_of(graph.told, graph.leads)
    return {node: number for node, number in zip(graph.nodes, numbers)}


def alike(sweeps, direction):
    """The classes of the states that can come in this direction, by the repr of their first states."""
    states = states_of(sweeps, direction)
    numbers = classes_by_node(sweeps)
    members = {}
    for state in states:
        members.setdefault(numbers[(direction, state)], []).append(state)
    return tuple([tuple(members[number]) for number in members])


def first_ones(sweeps):
    """A dict from each pair (direction, state that can come) to the first state of its class."""
    numbers = classes_by_node(sweeps)
    firsts = {}
    for direction, state in numbers:
        firsts.setdefault(numbers[(direction, state)], state)
    return {node: firsts[numbers[node]] for node in numbers}


def least(sweeps):
    """The machine with the same first row in which each state is the first one of its class."""
    firsts = first_ones(sweeps)
    steps = {}
    turns = {}
    for direction, state in firsts:
        if firsts[(direction, state)] != state:
            continue
        for letter in sweeps.letters:
            follower, written = sweeps.steps[(direction, state, letter)]
            steps[(direction, state, letter)] = (firsts[(direction, follower)], written)
        turn = sweeps.turns[(direction, state)]
        if turn is not None:
            turn = (firsts[(OTHER_DIRECTION[direction], turn[0])], turn[1])
        turns[(direction, state)] = turn
    return Sweeps(sweeps.first, firsts[("l", sweeps.begin)], steps, turns)
