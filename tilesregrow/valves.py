"""Grids of cells as blocks of tiles with valves, which bear fewer than k slips each."""

from tilesregrow.beds import NONE, Tile, TileSet
from tilesregrow.errors import BadNumber, BadPlace, BadTile
from tilesregrow.kinds import is_integer, is_symbol, is_tuple_of
from tilesregrow.wirings import Turning, block_bonds, block_places

LEAST_K = 1

MOST_K = 6


class Grid:
    """A rectangle of cells: states go through it eastward, letters northward, as a rule tells."""

    def __init__(self, word, states, rule):
        if not are_symbols(word):
            raise BadTile(word)
        if not are_symbols(states):
            raise BadTile(states)
        if not is_rule(rule):
            raise BadTile(rule)
        rows_of_pairs(word, states, rule)
        self.word = word
        self.states = states
        self.rule = {pair: rule[pair] for pair in rule}


def are_symbols(value):
    """Whether a value is a tuple of one state or letter or more."""
    return isinstance(value, tuple) and len(value) > 0 and all([is_symbol(item) for item in value])


def is_pair(value):
    """Whether a value is a pair of a state and a letter."""
    return is_tuple_of(2, value) and are_symbols(value)


def is_rule(rule):
    """Whether a value is a dict from pairs of a state and a letter to such pairs."""
    return isinstance(rule, dict) and all([is_pair(pair) and is_pair(rule[pair]) for pair in rule])


def rows_of_pairs(word, states, rule):
    """The tuple of the rows of the pairs that come into the cells; the first one without a rule is a BadTile."""
    letters = word
    rows = []
    for first in states:
        state = first
        row = []
        written = []
        for letter in letters:
            pair = (state, letter)
            if pair not in rule:
                raise BadTile(pair)
            row.append(pair)
            state, above = rule[pair]
            written.append(above)
        rows.append(tuple(row))
        letters = written
    return tuple(rows)


def cells_of(grid):
    """The tuple of the rows of a grid, row 0 first, each the tuple of the pairs that come into its cells."""
    return rows_of_pairs(grid.word, grid.states, grid.rule)


def check_k(k):
    if not is_integer(k) or not LEAST_K <= k <= MOST_K:
        raise BadNumber("k", k)


def places_of(k):
    """The tuple of the places of a block that hold tiles, ascending."""
    check_k(k)
    return tuple(block_places(k))


def bonds_of(k):
    """The tuple of the bonds (place, place, strength) of a block, the lesser place first, ascending."""
    check_k(k)
    return tuple(block_bonds(k))


class Valves:
    """A grid as a set of tiles: a block for each of its cells, and a border to its west and south."""

    def __init__(self, grid, k):
        check_k(k)
        self.grid = grid
        self.k = k
        self.tile_set = TileSet(border_tiles(grid, k) + block_tiles(grid, k))
        self.seed_place = (-1, -1)
        self.seed_name = ("corner",)
        # What the functions below ask for again and again.
        self.cells = cells_of(grid)
        self.held = block_places(k)


def state_glue(state, j):
    return (("state", state, j), 1)


def letter_glue(letter, i):
    return (("letter", letter, i), 1)


def inner_glues(k, pair):
    """A dict from each place of a block of this pair to the list of its glues by side, the outer ones NONE."""
    glues = {place: [NONE, NONE, NONE, NONE] for place in block_places(k)}
    for one, two, strength in block_bonds(k):
        word, side, facing = ("east", 2, 0) if one[1] == two[1] else ("north", 3, 1)
        glue = ((word, *pair, *one), strength)
        glues[one][side] = glue
        glues[two][facing] = glue
    return glues


def block_tiles(grid, k):
    """The list of the tiles of the blocks of all pairs of the rule."""
    tiles = []
    for pair in grid.rule:
        state, letter = pair
        state_after, written = grid.rule[pair]
        glues = inner_glues(k, pair)
        for copy in range(k):
            glues[(0, 2 * copy)][0] = state_glue(state, copy)
            glues[(2 * copy, 0)][1] = letter_glue(letter, copy)
            glues[(4 * k - 1, 2 * copy)][2] = state_glue(state_after, copy)
            glues[(2 * copy, 4 * k - 1)][3] = letter_glue(written, copy)
        for place in glues:
            west, south, east, north = glues[place]
            tiles.append(Tile(("block", *pair, *place), west, south, east, north))
    return tiles


def border_tiles(grid, k):
    """The list of the tiles of the border, the seed first, each behind the one that it sticks to."""
    west = [state_glue(state, j) if j < k else NONE for state, j in lanes(grid.states, k)]
    south = [letter_glue(letter, i) if i < k else NONE for letter, i in lanes(grid.word, k)]
    tiles = [Tile(("corner",), NONE, NONE, (("south", 0), 2), (("west", 0), 2))]
    for y, glue in enumerate(west):
        ahead = (("west", y + 1), 2) if y + 1 < len(west) else NONE
        tiles.append(Tile(("west", y), NONE, (("west", y), 2), glue, ahead))
    for x, glue in enumerate(south):
        ahead = (("south", x + 1), 2) if x + 1 < len(south) else NONE
        tiles.append(Tile(("south", x), (("south", x), 2), NONE, ahead, glue))
    return tiles


def lanes(symbols, k):
    """For each place along the border the pair of what comes in beside it and the number of the copy.

    The number is k or more where nothing comes in.
    """
    return [(symbol, at // 2 if at % 2 == 0 else k) for symbol in symbols for at in range(4 * k)]


def border_pairs(valves):
    """The list of the pairs (place, name) of the border, the seed first, each behind the one that it sticks to."""
    found = [(valves.seed_place, valves.seed_name)]
    found.extend([((-1, y), ("west", y)) for y in range(4 * valves.k * len(valves.grid.states))])
    found.extend([((x, -1), ("south", x)) for x in range(4 * valves.k * len(valves.grid.word))])
    return found


def place_in(valves, column, row, place):
    """The place of a bed that is this place of the block of a cell."""
    x, y = place
    return (4 * valves.k * column + x, 4 * valves.k * row + y)


def block_pairs(valves, column, row, pair):
    """The list of the pairs (place, name) of the block of a cell with this pair, ascending by place."""
    return [(place_in(valves, column, row, place), ("block", *pair, *place)) for place in valves.held]


def right_tiles(valves):
    """A dict from each place of the border and of the blocks of all cells to the name of its tile."""
    found = {place: name for place, name in border_pairs(valves)}
    for row, pairs in enumerate(valves.cells):
        for column, pair in enumerate(pairs):
            for place, name in block_pairs(valves, column, row, pair):
                found[place] = name
    return found


def has_cell(valves, column, row):
    """Whether the grid has this cell."""
    if not is_integer(column) or not is_integer(row):
        return False
    return 0 <= row < len(valves.cells) and 0 <= column < len(valves.cells[row])


def check_cell(valves, column, row):
    if not has_cell(valves, column, row):
        raise BadPlace((column, row))


def cell_at(valves, place):
    """The cell of the grid to whose block a place belongs, or None."""
    across, up = place
    cell = (across // (4 * valves.k), up // (4 * valves.k))
    return cell if has_cell(valves, *cell) else None


def pair_at(valves, bed, column, row):
    """The pair whose tiles lie at all places of the block of this cell, or None."""
    check_cell(valves, column, row)
    name = bed.at(place_in(valves, column, row, valves.held[0]))
    if name is None or name[0] != "block":
        return None
    pair = (name[1], name[2])
    for place, own in block_pairs(valves, column, row, pair):
        if bed.at(place) != own:
            return None
    return pair


def local_wash(valves, bed):
    """Each block that is not whole is cut out; returns the tuple of the places whose tiles went, ascending."""
    whole = {}
    gone = []
    for place in bed.places():
        cell = cell_at(valves, place)
        if cell is None:
            continue
        if cell not in whole:
            whole[cell] = pair_at(valves, bed, *cell) is not None
        if not whole[cell]:
            gone.append(place)
    bed.cut(gone)
    return tuple(gone)


def turning_run(valves, column, row, pair):
    """The tuple of the deeds, k slips among them, that bring the block of a cell with another pair."""
    check_cell(valves, column, row)
    if not is_pair(pair) or pair not in valves.grid.rule:
        raise BadTile(pair)
    state, letter = valves.cells[row][column]
    if (pair[0] == state) == (pair[1] == letter):
        raise BadTile(pair)
    turning = Turning(valves.k, pair[0] == state)
    return tuple([(word, place_in(valves, column, row, place), ("block", *pair, *place))
                  for word, place in turning.deeds])
