"""Machines of sweeps as graphs: what tells two of them apart."""

from tilesregrow.directions import DIRECTIONS, OTHER_DIRECTION, direction_of, in_order


class Graph:
    """A machine with its states that can come, in their directions, as numbered nodes.

    The inputs are the letters of the machine, in their order, and behind these the turn.
    """

    def __init__(self, sweeps):
        self._sweeps = sweeps
        self.nodes = [(direction, state) for direction in DIRECTIONS for state in sweeps.states[direction]]
        self._numbers = {node: number for number, node in enumerate(self.nodes)}
        self.begin = self._numbers[("l", sweeps.begin)]
        self.told = []
        self.leads = []
        for direction, state in self.nodes:
            self._add(direction, state)

    def _add(self, direction, state):
        """What the next node tells at once, the turn last, and where each input leads."""
        done = [self._sweeps.steps[(direction, state, letter)] for letter in self._sweeps.letters]
        leads = [self._numbers[(direction, follower)] for follower, _ in done]
        turn = self._sweeps.turns[(direction, state)]
        if turn is None:
            leads.append(None)
            told = None
        else:
            leads.append(self._numbers[(OTHER_DIRECTION[direction], turn[0])])
            told = (turn[1],)
        self.told.append((direction, tuple([written for _, written in done]), told))
        self.leads.append(leads)


class Lots:
    """Numbers from 0 on in lots, at first each one in a lot of its own."""

    def __init__(self, many):
        self._aboves = list(range(many))

    def _top(self, number):
        while self._aboves[number] != number:
            self._aboves[number] = self._aboves[self._aboves[number]]
            number = self._aboves[number]
        return number

    def unite(self, one, two):
        """Unite the lots of two numbers; returns whether they were apart."""
        top, other = self._top(one), self._top(two)
        self._aboves[top] = other
        return top != other


def parting_inputs(one, two):
    """A list of inputs that lead two graphs, from their begins, to telling unlike things; None if there is none.

    Nodes that the same inputs lead to are to tell the same, so that they come into one lot. Two nodes that are in one
    lot already need no look: so the ways have fewer inputs than there are nodes.
    """
    begin = (one.begin, two.begin)
    ways = {begin: None}
    lots = Lots(len(one.nodes) + len(two.nodes))
    queue = [begin]
    index = 0
    while index < len(queue):
        pair = queue[index]
        index += 1
        node, other = pair
        if one.told[node] != two.told[other]:
            return way_to(ways, pair) + unlike_letter(one.told[node], two.told[other])
        if lots.unite(node, len(one.nodes) + other):
            for number, followers in enumerate(zip(one.leads[node], two.leads[other])):
                # Both turns end the whole, or none does: both nodes tell the same.
                if followers[0] is not None and followers not in ways:
                    ways[followers] = (pair, number)
                    queue.append(followers)
    return None


def way_to(ways, pair):
    """The list of the inputs on the way to a pair of nodes."""
    found = []
    while ways[pair] is not None:
        pair, number = ways[pair]
        found.append(number)
    return found[::-1]


def unlike_letter(told, other):
    """The number of the first letter at which unlike ones are written, in a list; an empty one if it is the turn."""
    for number, (one, two) in enumerate(zip(told[1], other[1])):
        if one != two:
            return [number]
    return []


def words_along(letters, inputs):
    """The tuple of the words that these inputs walk, the first one leftward, the next one rightward, and so on."""
    words = [[]]
    for number in inputs:
        if number < len(letters):
            words[-1].append(letters[number])
        else:
            words.append([])
    return tuple([in_order(direction_of(row), word) for row, word in enumerate(words, start=1)])
