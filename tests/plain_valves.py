"""What the document tells of grids and valve blocks, written once more as plainly as it is told there.

A plain grid is a triple (word, states, rule); a plain bed is a dict from places to names.
"""

import random

from tilesregrow.beds import NONE
from tilesregrow.valves import Grid

# Blocks as drawings, read line by line against the document: the highest places first; "=" and "H" are strong bonds,
# "-" and "|" weak ones.
DRAWN = {1: """
o=o=o .
    H
. o-o=o
  H | H
o=o=o o
H H   H
o=o . o
""", 2: """
o=o o=o . . . .
  H   H
o-o o-o . . . .
H | H |
o=o=o=o=o . . .
        H
. . . o-o=o . .
      H | H
o=o o=o=o o-o=o
H H H H   H | H
o=o-o=o . o=o o
|   |     H
o=o o=o . o-o=o
H H H H   H | H
o=o-o=o . o=o o
""", 3: """
o . o . o . . . . . . .
H   H   H
o-o o-o o-o . . . . . .
| H | H | H
o=o o=o o=o . . . . . .
  H   H   H
o-o o-o o-o . . . . . .
H | H | H |
o=o=o=o=o=o=o . . . . .
            H
. . . . . o-o=o . . . .
          H | H
o=o o=o o=o=o o-o=o=o .
H H H H H H   H | H |
o=o-o=o-o=o . o=o o-o=o
|   |   |     H
o=o o=o o=o . o-o=o=o .
H H H H H H   H | H |
o=o-o=o-o=o . o=o o-o=o
|   |   |     H
o=o o=o o=o . o-o=o=o .
H H H H H H   H | H |
o=o-o=o-o=o . o=o o-o=o
"""}


def drawn(k):
    """The places and the dict of the bonds of a drawing."""
    found, ties = [], {}
    for up, line in enumerate(reversed(DRAWN[k].strip("\n").split("\n"))):
        for across, sign in enumerate(line):
            x, y = across // 2, up // 2
            if sign == "o":
                found.append((x, y))
            elif sign in "=-":
                ties[(x, y), (x + 1, y)] = 2 if sign == "=" else 1
            elif sign in "H|":
                ties[(x, y), (x, y + 1)] = 2 if sign == "H" else 1
    return sorted(found), ties


def bonds(k):
    """A dict from pairs of places, the lesser one first, to strengths."""
    d = 2 * k
    found = {}

    def tie(one, two, strength, twice=False):
        assert sorted((abs(one[0] - two[0]), abs(one[1] - two[1]))) == [0, 1]
        assert tuple(sorted((one, two))) not in found
        found[tuple(sorted((one, two)))] = strength
        if twice:
            tie(one[::-1], two[::-1], strength)

    for i in range(k):
        for j in range(k):
            x, y = 2 * i, 2 * j
            ring = [(x, y), (x + 1, y), (x + 1, y + 1), (x, y + 1)]
            for at in range(4):
                tie(ring[at], ring[(at + 1) % 4], 2)
            if i < k - 1:
                tie((x + 1, y), (x + 2, y), 1)
            if j < k - 1:
                tie((x, y + 1), (x, y + 2), 1)
    for arm in ((d - 1, d), (d, d - 1)):
        tie((d - 1, d - 1), arm, 2)
        tie(arm, (d, d), 1)
    tie((d, d), (d + 1, d), 2, twice=True)
    for y in range(d):
        tie((d + 1, y), (d + 1, y + 1), 2, twice=True)
    for j in range(k):
        for n in range(1, k):
            x = d + 2 * n
            y, z = (2 * j, 2 * j + 1) if n % 2 else (2 * j + 1, 2 * j)
            tie((x - 1, y), (x, y), 2, twice=True)
            if n > 1:
                tie((x - 2, y), (x - 1, y), 2, twice=True)
                tie((x - 1, y), (x - 1, z), 2, twice=True)
            tie((x, y), (x, z), 1, twice=True)
            tie((x - 1, z), (x, z), 1, twice=True)
        if k > 1:
            tie((x, z), (x + 1, z), 2, twice=True)
            if k % 2 == 0:
                tie((x + 1, 2 * j + 1), (x + 1, 2 * j), 2, twice=True)
    return found


def places(k):
    return sorted({place for pair in bonds(k) for place in pair})


def cells(word, states, rule):
    """The rows of pairs, by what comes into each cell."""
    into = {}
    for row in range(len(states)):
        for column in range(len(word)):
            state = states[row] if column == 0 else rule[into[column - 1, row]][0]
            letter = word[column] if row == 0 else rule[into[column, row - 1]][1]
            into[column, row] = state, letter
    return tuple(tuple(into[column, row] for column in range(len(word))) for row in range(len(states)))


def tiles(word, states, rule, k):
    """A dict from the name of each tile to its west, south, east and north glue."""
    size = 4 * k
    found = {}
    for (state, letter), (state_after, written) in rule.items():
        for x, y in places(k):
            sides = [NONE] * 4
            for (one, two), strength in bonds(k).items():
                word_of = "east" if one[1] == two[1] else "north"
                glue = ((word_of, state, letter, *one), strength)
                if (x, y) == one:
                    sides[2 if word_of == "east" else 3] = glue
                if (x, y) == two:
                    sides[0 if word_of == "east" else 1] = glue
            for copy in range(k):
                if (x, y) == (0, 2 * copy):
                    sides[0] = (("state", state, copy), 1)
                if (x, y) == (2 * copy, 0):
                    sides[1] = (("letter", letter, copy), 1)
                if (x, y) == (size - 1, 2 * copy):
                    sides[2] = (("state", state_after, copy), 1)
                if (x, y) == (2 * copy, size - 1):
                    sides[3] = (("letter", written, copy), 1)
            found["block", state, letter, x, y] = tuple(sides)
    found["corner",] = (NONE, NONE, (("south", 0), 2), (("west", 0), 2))
    for name, symbols in (("west", states), ("south", word)):
        for at in range(size * len(symbols)):
            behind = ((name, at), 2)
            ahead = ((name, at + 1), 2) if at < size * len(symbols) - 1 else NONE
            copy = at % size // 2
            into = NONE
            if at % size in range(0, 2 * k, 2):
                into = (("state" if name == "west" else "letter", symbols[at // size], copy), 1)
            found[name, at] = (NONE, behind, into, ahead) if name == "west" else (behind, NONE, ahead, into)
    return found


def right(word, states, rule, k):
    """A dict from the places of the border and of all blocks to the names of their tiles."""
    size = 4 * k
    found = {(-1, -1): ("corner",)}
    for at in range(size * len(states)):
        found[-1, at] = ("west", at)
    for at in range(size * len(word)):
        found[at, -1] = ("south", at)
    for row, pairs in enumerate(cells(word, states, rule)):
        for column, pair in enumerate(pairs):
            for x, y in places(k):
                found[size * column + x, size * row + y] = ("block", *pair, x, y)
    return found


def field(k, column, row):
    """All places of a block, also the empty ones."""
    return [(4 * k * column + x, 4 * k * row + y) for x in range(4 * k) for y in range(4 * k)]


def pair_at(lying, rule, k, column, row):
    for pair in rule:
        if all(lying.get((4 * k * column + x, 4 * k * row + y)) == ("block", *pair, x, y) for x, y in places(k)):
            return pair
    return None


SYMBOLS = (0, 1, "a", "b", ("q", 1), ((), None), -7, "state")

XOR = ((0, 1), (1, 0), {(state, letter): (letter, (state + letter) % 2) for state in (0, 1) for letter in (0, 1)})


def random_grid(rng, wide=3, high=3, symbols=3):
    """A plain grid with rules for all pairs of some states and letters."""
    states = rng.sample(SYMBOLS, rng.randrange(1, symbols + 1))
    letters = rng.sample(SYMBOLS, rng.randrange(1, symbols + 1))
    rule = {(state, letter): (rng.choice(states), rng.choice(letters)) for state in states for letter in letters}
    word = tuple(rng.choice(letters) for _ in range(rng.randrange(1, wide + 1)))
    return word, tuple(rng.choice(states) for _ in range(rng.randrange(1, high + 1))), rule


def random_grids(many, seed, **told):
    rng = random.Random(seed)
    return [random_grid(rng, **told) for _ in range(many)]


def made(grid):
    return Grid(*grid)
