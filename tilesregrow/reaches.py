"""Which states can come in a machine, and which letters are its own."""

from tilesregrow.directions import DIRECTIONS, OTHER_DIRECTION


class Reach:
    """The least lots of states and letters that lead to no others, and the keys that are missing for them.

    Letters and states are met with each other only once, since a machine may have many of both.
    """

    def __init__(self, first, begin, steps, turns):
        self._steps = steps
        self._turns = turns
        self._todo = []
        self.letters = {}
        self.states = {direction: {} for direction in DIRECTIONS}
        self.missing = []
        for letter in first:
            self._add_letter(letter)
        self._add_state("l", begin)
        while self._todo:
            self._look_at(self._todo.pop())

    def _add_letter(self, letter):
        if letter in self.letters:
            return
        self.letters[letter] = True
        for direction in DIRECTIONS:
            self._todo.extend([(direction, state, letter) for state in self.states[direction]])

    def _add_state(self, direction, state):
        if state in self.states[direction]:
            return
        self.states[direction][state] = True
        self._todo.append((direction, state))
        self._todo.extend([(direction, state, letter) for letter in self.letters])

    def _look_at(self, key):
        """Go on behind the step or the turn with this key."""
        if len(key) == 3:
            self._look_at_step(key)
        else:
            self._look_at_turn(key)

    def _look_at_step(self, key):
        if key not in self._steps:
            self.missing.append(key)
            return
        state, written = self._steps[key]
        self._add_state(key[0], state)
        self._add_letter(written)

    def _look_at_turn(self, key):
        if key not in self._turns:
            self.missing.append(key)
            return
        turn = self._turns[key]
        if turn is None:
            return
        state, extra = turn
        self._add_state(OTHER_DIRECTION[key[0]], state)
        if extra is not None:
            self._add_letter(extra)
