"""What the document tells of labels, tiles and pictures, written once more as plainly as it is told there."""

import plain_sweeps
from plain_sweeps import OTHER

NONE = (None, 0)


def outcome(machine, label):
    first, begin, steps, turns = machine
    if label[0] == "first":
        return "r", None, first[label[1]]
    if label[0] == "extra":
        state = steps["r", label[1], label[2]][0]
        return "r", None, turns["r", state][1]
    if label[0] in ("step", "last"):
        return (label[1], *steps[label[1:]])
    below = label[1]
    letter = outcome(machine, below)[2]
    if below[0] == "first":
        return ("l", *steps["l", begin, letter])
    direction = below[1] if below[0] == "last" else "r"
    behind = steps[direction, below[-2], below[-1]][0]
    state = turns[direction, behind][0]
    return (OTHER[direction], *steps[OTHER[direction], state, letter])


def labels(machine):
    states, letters = plain_sweeps.lots(*machine)
    _, _, steps, turns = machine
    found = [("first", column) for column in range(len(machine[0]))]
    found.append(("start", found[-1]))
    for direction in "lr":
        for state in states[direction]:
            for letter in letters:
                last = ("last", direction, state, letter)
                found += [("step", direction, state, letter), last]
                turn = turns[direction, steps[direction, state, letter][0]]
                if turn is not None and turn[1] is not None:
                    extra = ("extra", state, letter)
                    found += [extra, ("start", extra)]
                elif turn is not None:
                    found.append(("start", last))
    return tuple(sorted(found, key=repr))


def sides(machine, label):
    """A dict from each (x, y) to the list of the west, south, east and north glue of the tile."""
    inside = [(("inside", label, number), 2) for number in range(4)]
    found = {(x, y): [NONE] * 4 for x in (0, 1) for y in (0, 1)}
    for number, (one, side, two) in enumerate((((0, 0), 2, (1, 0)), ((0, 0), 3, (0, 1)), ((1, 0), 3, (1, 1)),
                                               ((0, 1), 2, (1, 1)))):
        found[one][side] = found[two][side - 2] = inside[number]
    direction, behind, written = outcome(machine, label)
    if direction == "r":
        where = {"behind": ((0, 0), 0), "below": ((0, 0), 1), "ahead": ((1, 0), 2), "above": ((1, 1), 3)}
    else:
        where = {"behind": ((1, 0), 2), "below": ((1, 0), 1), "ahead": ((0, 0), 0), "above": ((0, 1), 3)}
    for word, glue in outer(machine, label, direction, behind, written).items():
        corner, side = where[word]
        found[corner][side] = glue
    return found


def outer(machine, label, d, behind, written):
    many = len(machine[0])
    if label[0] == "first":
        i = label[1]
        found = {}
        if i != 0:
            found["behind"] = (("chain", i), 2)
        if i == many - 1:
            found["above"] = (("turn", label), 2)
        else:
            found["ahead"] = (("chain", i + 1), 2)
            found["above"] = (("letter", "r", written, int(i == 0)), 1)
        return found
    if label[0] == "extra":
        return {"behind": (("extra", ("last", "r", label[1], label[2])), 2), "above": (("turn", label), 2)}
    if label[0] == "start":
        return {"below": (("turn", label[1]), 2), "ahead": (("state", d, behind), 1),
                "above": (("letter", d, written, 1), 1)}
    found = {"behind": (("state", d, label[2]), 1),
             "below": (("letter", OTHER[d], label[3], int(label[0] == "last")), 1)}
    if label[0] == "step":
        return {**found, "ahead": (("state", d, behind), 1), "above": (("letter", d, written, 0), 1)}
    turn = machine[3][d, behind]
    if turn is None:
        return found
    if turn[1] is None:
        return {**found, "above": (("turn", label), 2)}
    return {**found, "ahead": (("extra", label), 2), "above": (("letter", d, written, 0), 1)}


def picture(machine, many):
    """The first rows of labels, so many of them or up to the end."""
    first, begin, steps, turns = machine
    rows = [[("first", column) for column in range(len(first))]]
    letters = list(first)
    direction, state = "l", begin
    while len(rows) < many:
        columns = list(range(len(letters)))
        if direction == "l":
            columns.reverse()
        row = [None] * len(letters)
        for column in columns:
            key = direction, state, letters[column]
            if column == columns[0]:
                row[column] = ("start", rows[-1][column])
            else:
                row[column] = ("last" if column == columns[-1] else "step", *key)
            state, letters[column] = steps[key]
        turn = turns[direction, state]
        if turn is not None and turn[1] is not None:
            row.append(("extra", *row[columns[-1]][2:]))
            letters.append(turn[1])
        rows.append(row)
        if turn is None:
            break
        direction, state = OTHER[direction], turn[0]
    return tuple(tuple(row) for row in rows)


def tiles(rows):
    """The dict from each place to the name of the tile of rows of labels."""
    return {(2 * column + x, 2 * row + y): (label, x, y) for row, told in enumerate(rows)
            for column, label in enumerate(told) for x in (0, 1) for y in (0, 1)}


def label_at(lying, column, row):
    for name in lying.values():
        if all(lying.get((2 * column + x, 2 * row + y)) == (name[0], x, y) for x in (0, 1) for y in (0, 1)):
            return name[0]
    return None


def shown(machine, lying):
    cells = {(up // 2, across // 2) for across, up in lying}
    found = [(column, row, label_at(lying, column, row)) for row, column in sorted(cells)]
    return tuple((column, row, outcome(machine, label)[2]) for column, row, label in found if label is not None)
