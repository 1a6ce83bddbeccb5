"""What the document tells of beds, written once more as plainly as it is told there, and small beds to ask about.

A plain bed is a dict from places to names. Sets of tiles are those of the package, of which only the Tiles are read.
"""

import random

from tilesregrow.beds import NONE, Bed, Tile, TileSet


def around(place):
    across, up = place
    return [(across - 1, up), (across, up - 1), (across + 1, up), (across, up + 1)]


def glues(tile_set):
    return {tile.name: (tile.west, tile.south, tile.east, tile.north) for tile in tile_set.tiles}


def bonds(told, lying, place, name):
    total = 0
    for side, other in enumerate(around(place)):
        if other in lying:
            own, met = told[name][side], told[lying[other]][(side + 2) % 4]
            if own == met and own[1] in (1, 2):
                total += own[1]
    return total


def fitting(told, lying, place):
    return [name for name in sorted(told, key=repr) if bonds(told, lying, place, name) >= 2]


def may_come(told, lying):
    empty = sorted({other for place in lying for other in around(place)} - set(lying))
    return [(place, name) for place in empty for name in fitting(told, lying, place)]


def behind(told, lying, run):
    """The plain bed behind a run, None if it is none."""
    lying = dict(lying)
    for place, name in run:
        if place in lying or name not in told or bonds(told, lying, place, name) < 2:
            return None
        lying[place] = name
    return lying


def rounds(told, lying):
    lying = dict(lying)
    found = []
    while may_come(told, lying):
        step = {}
        for place, name in may_come(told, lying):
            step.setdefault(place, name)
        found.append(tuple(sorted(step.items())))
        lying.update(step)
    return tuple(found)


def first_run(told, lying, most=None):
    """The first run, None if it would have more than most tiles lie."""
    lying = dict(lying)
    run = []
    while may_come(told, lying):
        place, name = may_come(told, lying)[0]
        lying[place] = name
        run.append((place, name))
        if most is not None and len(lying) > most:
            return None
    return tuple(run)


def has_one_end(told, lying, end):
    """Whether all runs of the bed bring only tiles of this ended bed: all of them are followed."""
    seen = set()
    todo = [dict(lying)]
    while todo:
        now = todo.pop()
        for place, name in may_come(told, now):
            if end.get(place) != name:
                return False
            later = {**now, place: name}
            if frozenset(later) not in seen:
                seen.add(frozenset(later))
                todo.append(later)
    return True


def rivals(told, lying, comings):
    end = behind(told, lying, comings)
    return [(place, name) for place in sorted(place for place, _ in comings)
            for name in fitting(told, end, place) if name != end[place]]


def without(told, lying, comings, empty):
    end = behind(told, lying, comings)
    lot = dict(lying)
    grows = True
    while grows:
        grows = False
        for place, name in comings:
            if place != empty and place not in lot and bonds(told, lot, place, name) >= 2:
                lot[place] = end[place]
                grows = True
    return tuple(sorted(lot))


def walls(told, lying, comings):
    return tuple((place, name, without(told, lying, comings, place)) for place, name in rivals(told, lying, comings))


def is_wall(told, lying, comings, triple):
    place, name, lot = triple
    end = behind(told, lying, comings)
    if any(other not in lot for other in lying) or any(other not in end for other in lot) or place in lot:
        return False
    held = {other: end[other] for other in lot}
    for other, own in comings:
        if other != place and other not in held and bonds(told, held, other, own) >= 2:
            return False
    return bonds(told, held, place, name) < 2


def is_one_end(told, lying, comings, triples):
    end = behind(told, lying, comings)
    if end is None or may_come(told, end):
        return False
    good = [triple[:2] for triple in triples
            if triple[:2] in rivals(told, lying, comings) and is_wall(told, lying, comings, triple)]
    return all(rival in good for rival in rivals(told, lying, comings))


def is_parting(told, lying, one, two):
    if one == () or two == () or behind(told, lying, one) is None or behind(told, lying, two) is None:
        return False
    return one[-1][0] == two[-1][0] and one[-1][1] != two[-1][1]


def heals(told, ended, hole):
    """Whether an ended plain bed heals from a hole."""
    torn = {place: name for place, name in ended.items() if place not in hole}
    run = first_run(told, torn, len(ended))
    return run is not None and behind(told, torn, run) == ended and has_one_end(told, torn, ended)


def is_scar(told, ended, seed_place, hole, comings):
    if may_come(told, ended) or any(place not in ended or place == seed_place for place in hole):
        return False
    torn = {place: name for place, name in ended.items() if place not in hole}
    end = behind(told, torn, comings)
    if end is None:
        return False
    strange = any(ended.get(place) != name for place, name in comings)
    return strange or (not may_come(told, end) and any(place not in end for place in ended))


def is_healing(told, ended, seed_place, comings):
    if may_come(told, ended):
        return False
    if behind(told, {seed_place: ended[seed_place]}, comings) != ended:
        return False
    return all(name == ended[place] for place in ended if place != seed_place
               for name in fitting(told, ended, place))


NAMES = ("a", "b", 3, -7, ("c", 1), (("d",), None), "it's", 20)


def random_set(rng, many, labels):
    """A set of tiles with few labels, so that much sticks."""
    def glue():
        kind = rng.random()
        if kind < 0.35:
            return NONE
        return (rng.choice(labels), rng.choice((0, 1, 1, 2, 2)))
    names = list(NAMES[:many])
    rng.shuffle(names)
    return TileSet([Tile(name, glue(), glue(), glue(), glue()) for name in names])


def random_shape(rng, many):
    """Places that hang together, the first of them (0, 0)."""
    shape = [(0, 0)]
    while len(shape) < many:
        other = rng.choice(around(rng.choice(shape)))
        if other not in shape and abs(other[0]) <= 2 and abs(other[1]) <= 1:
            shape.append(other)
    return shape


def picture_set(rng, many, rivals_many):
    """A tile for each place of a random shape, and rivals that have some of the glues of one of them."""
    sides = {place: [NONE] * 4 for place in random_shape(rng, many)}
    for place in sides:
        for side in (2, 3):
            other = around(place)[side]
            if other in sides and rng.random() < 0.9:
                label = (place, side) if rng.random() < 0.9 else ("shared", side)
                glue = (label, rng.choice((1, 1, 2, 2, 2)))
                sides[place][side] = sides[other][side - 2] = glue
    rows = list(sides.values())
    for _ in range(rivals_many):
        row = rng.choice(rows[1:])
        sticky = [side for side in range(4) if row[side] != NONE]
        kept = rng.sample(sticky, min(len(sticky), rng.choice((1, 1, 2))))
        rows.append([row[side] if side in kept else NONE for side in range(4)])
    names = [("tile", index) for index in range(len(rows))]
    rng.shuffle(names)
    return TileSet([Tile(name, *row) for name, row in zip(names, rows)])


def grid_set(width, height):
    """A rectangle of tiles, each with a name of its own: the border sticks strongly, all else by two weak bonds."""
    tiles = []
    for x in range(width):
        for y in range(height):
            tiles.append(Tile(
                (x, y),
                (("east", x - 1, y), 1 if y else 2) if x else NONE,
                (("north", x, y - 1), 1 if x else 2) if y else NONE,
                (("east", x, y), 1 if y else 2) if x < width - 1 else NONE,
                (("north", x, y), 1 if x else 2) if y < height - 1 else NONE))
    return TileSet(tiles)


def chain_set(many, rivals_at=()):
    """A row of tiles of strong bonds; the told ones have a rival each, which sticks only to the tile to the east."""
    tiles = [Tile(("row", x), (("chain", x), 2) if x else NONE, NONE,
                  (("chain", x + 1), 2) if x < many - 1 else NONE, NONE) for x in range(many)]
    for x in rivals_at:
        tiles.append(Tile(("rival", x), NONE, NONE, (("chain", x + 1), 2), NONE))
    return TileSet(tiles)


def seeded(tile_set):
    return Bed(tile_set, (0, 0), tile_set.tiles[0].name)


def random_beds(many, most, seed=1):
    """Small beds that end, each with the dict of its glues and its plain bed: some from the seed, some with slips."""
    rng = random.Random(seed)
    found = []
    while len(found) < many:
        if rng.random() < 0.25:
            tile_set = random_set(rng, rng.randrange(2, 7), ("x", "y", ("z", 1))[:rng.randrange(1, 4)])
        else:
            tile_set = picture_set(rng, rng.randrange(3, 9), rng.choice((0, 1, 2, 3)))
        bed = seeded(tile_set)
        for _ in range(rng.choice((0, 0, 0, 1, 2))):
            place = (rng.randrange(-2, 3), rng.randrange(-2, 3))
            if bed.at(place) is None:
                bed.slip(place, rng.choice(tile_set.names()))
        told = glues(tile_set)
        lying = dict(bed.pairs())
        run = first_run(told, lying, most)
        if run is not None and len(run) >= rng.choice((0, 1, 2, 2)):
            found.append((bed, told, lying))
    return found
