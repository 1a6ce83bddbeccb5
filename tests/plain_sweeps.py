"""What the document tells of sweeps, written once more as plainly as it is told there, and machines to ask about.

A plain machine is a tuple (first, begin, steps, turns); those that are asked about have all steps and turns.
"""

import random

from tilesregrow.sweeps import Sweeps

OTHER = {"l": "r", "r": "l"}

# Data of all kinds, nested at most three deep; 10 comes ahead of 9 by repr.
DATA = (0, 9, 10, -3, 2 ** 70, "", "a", "b", "l", "it's", 'q"', (), (None,), ("a", 1), ("a", -1), ((), None),
        ("q", (1, ("z",))), (((5,), "x"), 0), "None", ("l", "r"))


def lots(first, begin, steps, turns):
    """The dict of the lists of states that can come, by direction, and the list of the letters."""
    states = {"l": [begin], "r": []}
    letters = list(first)
    grown = True
    while grown:
        size = len(states["l"]), len(states["r"]), len(letters)
        for (direction, state, letter), (follower, written) in steps.items():
            if state in states[direction] and letter in letters:
                states[direction] += [follower] * (follower not in states[direction])
                letters += [written] * (written not in letters)
        for (direction, state), turn in turns.items():
            if state in states[direction] and turn is not None:
                other = states[OTHER[direction]]
                other += [turn[0]] * (turn[0] not in other)
                letters += [turn[1]] * (turn[1] is not None and turn[1] not in letters)
        grown = size != (len(states["l"]), len(states["r"]), len(letters))
    return states, sorted(set(letters), key=repr)


def lacking(machine):
    """The keys that lack, by repr."""
    states, letters = lots(*machine)
    _, _, steps, turns = machine
    keys = [(direction, state) for direction in "lr" for state in states[direction]]
    found = [key for key in keys if key not in turns]
    found += [(*key, letter) for key in keys for letter in letters if (*key, letter) not in steps]
    return sorted(found, key=repr)


def walk(machine, direction, state, word):
    """The state behind a word, and the letters written."""
    written = list(word)
    for column in sorted(range(len(word)), reverse=direction == "l"):
        state, written[column] = machine[2][direction, state, word[column]]
    return state, tuple(written)


def fed(machine, words):
    found = []
    direction, state = "l", machine[1]
    for word in words:
        state, written = walk(machine, direction, state, word)
        turn = machine[3][direction, state]
        found.append((written, None if turn is None else (turn[1],)))
        if turn is None:
            break
        direction, state = OTHER[direction], turn[0]
    return tuple(found)


def run(machine, most):
    """The rows, None if they are more than most."""
    rows = [machine[0]]
    direction, state = "l", machine[1]
    while True:
        state, written = walk(machine, direction, state, rows[-1])
        turn = machine[3][direction, state]
        extra = () if turn is None or turn[1] is None else (turn[1],)
        rows.append(written + extra)
        if len(rows) > most:
            return None
        if turn is None:
            return tuple(rows)
        direction, state = OTHER[direction], turn[0]


def unlike_nodes(machine):
    """The set of the pairs of nodes (direction, state that can come) that are told apart, both ways round."""
    states, letters = lots(*machine)
    _, _, steps, turns = machine
    nodes = [(direction, state) for direction in "lr" for state in states[direction]]

    def told(node):
        turn = turns[node]
        return node[0], [steps[(*node, letter)][1] for letter in letters], None if turn is None else (turn[1],)

    def followers(node):
        found = [(node[0], steps[(*node, letter)][0]) for letter in letters]
        return found + ([] if turns[node] is None else [(OTHER[node[0]], turns[node][0])])

    apart = {(one, two) for one in nodes for two in nodes if told(one) != told(two)}
    size = -1
    while size != len(apart):
        size = len(apart)
        for one in nodes:
            for two in nodes:
                if any(pair in apart for pair in zip(followers(one), followers(two))):
                    apart.add((one, two))
    return apart


def alike(machine, direction):
    apart = unlike_nodes(machine)
    states = sorted(lots(*machine)[0][direction], key=repr)
    found = []
    for state in states:
        lot = tuple(other for other in states if ((direction, state), (direction, other)) not in apart)
        if lot[0] == state:
            found.append(lot)
    return tuple(found)


def least(machine):
    _, letters = lots(*machine)
    firsts = {(direction, state): lot[0] for direction in "lr" for lot in alike(machine, direction) for state in lot}
    steps, turns = {}, {}
    for direction, state in firsts:
        if firsts[direction, state] == state:
            for letter in letters:
                follower, written = machine[2][direction, state, letter]
                steps[direction, state, letter] = firsts[direction, follower], written
            turn = machine[3][direction, state]
            turns[direction, state] = turn and (firsts[OTHER[direction], turn[0]], turn[1])
    return machine[0], firsts["l", machine[1]], steps, turns


def random_machine(rng, many_states=None, many_letters=None, ends=0.3):
    """A machine with all steps and turns of some states and letters; not all of them can come."""
    letters = rng.sample(DATA, many_letters or rng.randrange(1, 5))
    states = {direction: rng.sample(DATA, many_states or rng.randrange(1, 6)) for direction in "lr"}
    steps, turns = {}, {}
    for direction in "lr":
        for state in states[direction]:
            for letter in letters:
                steps[direction, state, letter] = rng.choice(states[direction]), rng.choice(letters)
            extra = rng.choice(letters) if direction == "r" and rng.random() < 0.4 else None
            ended = rng.random() < ends
            turns[direction, state] = None if ended else (rng.choice(states[OTHER[direction]]), extra)
    first = tuple(rng.choice(letters) for _ in range(rng.randrange(2, 6)))
    return first, rng.choice(states["l"]), steps, turns


def with_doubles(rng, machine):
    """A machine that does the same, but each of its states has some other names."""
    first, begin, steps, turns = machine
    names = {}
    for direction in "lr":
        old = [key[1] for key in turns if key[0] == direction]
        fresh = rng.sample(DATA, min(len(DATA), len(old) + rng.randrange(6)))
        for state, name in zip(old, fresh):
            names[direction, state] = [name]
        for name in fresh[len(old):]:
            names[direction, rng.choice(old)].append(name)
    new_steps, new_turns = {}, {}
    for (direction, state, letter), (follower, written) in steps.items():
        for name in names[direction, state]:
            new_steps[direction, name, letter] = rng.choice(names[direction, follower]), written
    for (direction, state), turn in turns.items():
        for name in names[direction, state]:
            new_turns[direction, name] = turn and (rng.choice(names[OTHER[direction], turn[0]]), turn[1])
    return first, rng.choice(names["l", begin]), new_steps, new_turns


def random_words(rng, letters, many=5, longest=5):
    return [tuple(rng.choice(letters) for _ in range(rng.randrange(longest))) for _ in range(rng.randrange(many))]


def random_machines(many, seed=1, **told):
    rng = random.Random(seed)
    return [random_machine(rng, **told) for _ in range(many)]


def ending_machines(many, most, seed=1, **told):
    """Machines with at most so many rows."""
    rng = random.Random(seed)
    found = []
    while len(found) < many:
        machine = random_machine(rng, **told)
        rows = run(machine, most)
        if rows is not None and len(rows) > rng.choice((1, 2, 3, 4, 6)):
            found.append(machine)
    return found


def made(machine):
    return Sweeps(*machine)


# Counts in base 2 from the left on, the first digit by 1; a row grows by an extra digit; it never ends.
COUNTER = (
    ("0", "0"), "back",
    {**{("l", "back", digit): ("back", digit) for digit in "01"},
     ("r", "add", "0"): ("keep", "1"), ("r", "add", "1"): ("add", "0"),
     **{("r", "keep", digit): ("keep", digit) for digit in "01"}},
    {("l", "back"): ("add", None), ("r", "add"): ("back", "1"), ("r", "keep"): ("back", None)})

# Writes an x over the last letter that is none, and ends when all are x.
EATER = (
    ("a", "b", "c"), "look",
    {**{("l", "look", letter): ("seen", "x") for letter in "abc"}, ("l", "look", "x"): ("look", "x"),
     **{("l", "seen", letter): ("seen", letter) for letter in "abcx"},
     **{("r", "go", letter): ("go", letter) for letter in "abcx"}},
    {("l", "look"): None, ("l", "seen"): ("go", None), ("r", "go"): ("look", None)})
