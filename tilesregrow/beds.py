"""Tiles, sets of tiles, and the beds on which tiles come."""

from tilesregrow.errors import BadNumber, BadPlace, BadTile, Loose, NoName, Taken, TakenName
from tilesregrow.fits import Fits
from tilesregrow.kinds import is_glue, is_place, is_side

NONE = (None, 0)

# The side of the tile beside a place that faces it: of the tile to its west the east side, and so on.
FACING_SIDES = (2, 3, 0, 1)


def places_around(place):
    """The four places beside one that is known to be a place."""
    across, up = place
    return ((across - 1, up), (across, up - 1), (across + 1, up), (across, up + 1))


def beside(place):
    """The four places to the west, south, east and north of a place."""
    check_place(place)
    return places_around(place)


def check_place(place):
    if not is_place(place):
        raise BadPlace(place)


def check_side(side):
    if not is_side(side):
        raise BadNumber("side", side)


class Tile:
    """A tile with a name and the glues of its four sides."""

    def __init__(self, name, west, south, east, north):
        if name is None or not all([is_glue(glue) for glue in (west, south, east, north)]):
            raise BadTile(name)
        self.name = name
        self.west = west
        self.south = south
        self.east = east
        self.north = north

    def glue_at(self, side):
        """The glue on this side."""
        check_side(side)
        return (self.west, self.south, self.east, self.north)[side]


class TileSet:
    """A set of tiles with unlike names."""

    def __init__(self, tiles):
        self.tiles = tuple(tiles)
        self._tile_by_name = {}
        for tile in self.tiles:
            if tile.name in self._tile_by_name:
                raise TakenName(tile.name)
            self._tile_by_name[tile.name] = tile
        self._names = tuple(sorted(self._tile_by_name, key=lambda name: repr(name)))
        self._ranks = {name: rank for rank, name in enumerate(self._names)}
        self._names_by_glue = [self._named_by(side) for side in range(4)]
        ordered = [self._tile_by_name[name] for name in self._names]
        self.fits = Fits([(tile.west, tile.south, tile.east, tile.north) for tile in ordered])

    def _named_by(self, side):
        found = {}
        for name in self._names:
            found.setdefault(self._tile_by_name[name].glue_at(side), []).append(name)
        return found

    def tile_of(self, name):
        """The tile with this name."""
        if name not in self._tile_by_name:
            raise NoName(name)
        return self._tile_by_name[name]

    def has(self, name):
        """Whether a tile has this name."""
        return name in self._tile_by_name

    def names(self):
        """The tuple of all names, ordered by their repr."""
        return self._names

    def with_glue(self, side, glue):
        """The tuple of the names, in order, of the tiles that have this glue on this side."""
        check_side(side)
        return tuple(self._names_by_glue[side].get(glue, ()))

    def rank_of(self, name):
        """The place, from 0 on, of a name among the names."""
        if name not in self._ranks:
            raise NoName(name)
        return self._ranks[name]


class Bed:
    """A bed that bears at each place one tile of a set or none."""

    def __init__(self, tile_set, seed_place, seed_name):
        check_place(seed_place)
        seed_rank = tile_set.rank_of(seed_name)
        self.tile_set = tile_set
        self.seed_place = seed_place
        self.seed_name = seed_name
        self._fits = tile_set.fits
        self._rank_at = {}
        # The empty places at which a tile may come are kept, since finding them anew would look at the whole bed.
        self._ready = {}
        self._put(seed_place, seed_rank)

    def _name_of(self, rank):
        return self.tile_set.names()[rank]

    def _facing(self, place):
        """The numbers of the glues that the tiles beside a place show to it, 0 where none lies."""
        found = []
        for other, side in zip(places_around(place), FACING_SIDES):
            rank = self._rank_at.get(other)
            found.append(0 if rank is None else self._fits.number_at(rank, side))
        return tuple(found)

    def _put(self, place, rank):
        self._rank_at[place] = rank
        self._ready.pop(place, None)
        for other in places_around(place):
            self._look_at(other)

    def _look_at(self, place):
        """Keep in mind whether a tile may come at this place now."""
        if place not in self._rank_at and self._fits.first(self._facing(place)) is not None:
            self._ready[place] = True
        else:
            self._ready.pop(place, None)

    def at(self, place):
        """The name of the tile that lies there, or None."""
        check_place(place)
        rank = self._rank_at.get(place)
        return None if rank is None else self._name_of(rank)

    def places(self):
        """The tuple of the places at which tiles lie, ascending."""
        return tuple(sorted(self._rank_at))

    def pairs(self):
        """The tuple of the pairs (place, name) of all tiles that lie, ascending by place."""
        return tuple([(place, self._name_of(self._rank_at[place])) for place in sorted(self._rank_at)])

    def how_many(self):
        """How many tiles lie."""
        return len(self._rank_at)

    def bonds_by_side(self, place, name):
        """The strengths of the bonds that this tile has, or would have, at this place, by side."""
        check_place(place)
        return self._fits.strengths(self.tile_set.rank_of(name), self._facing(place))

    def bonds(self, place, name):
        """The strength that all these bonds have together."""
        return sum(self.bonds_by_side(place, name))

    def fitting(self, place):
        """The names, in order, of all tiles with bonds of two at least at this place, whatever lies there."""
        check_place(place)
        return tuple([self._name_of(rank) for rank in self._fits.every(self._facing(place))])

    def first_fitting(self, place):
        """The first one of these names, or None."""
        rank = self._fits.first(self._facing(place))
        return None if rank is None else self._name_of(rank)

    def may_come_at(self, place):
        """The names of the tiles that may come at this place."""
        check_place(place)
        if place in self._rank_at:
            return ()
        return self.fitting(place)

    def may_come(self):
        """The tuple of all pairs (place, name) that may come, ascending by place, names in order."""
        return tuple([(place, name) for place in self.ready_places() for name in self.fitting(place)])

    def is_ready(self, place):
        """Whether a tile may come at this place."""
        return place in self._ready

    def ready_places(self):
        """The list of the places at which a tile may come, ascending."""
        return sorted(self._ready)

    def first_pairs(self):
        """For each of these places the pair (place, first name that may come there), ascending."""
        return tuple([(place, self.first_fitting(place)) for place in self.ready_places()])

    def first_pair(self):
        """The first pair of may_come(), or None if nothing may come."""
        if not self._ready:
            return None
        place = min(self._ready)
        return (place, self.first_fitting(place))

    def is_coming(self, place, name):
        """Whether this datum names a tile that may come at this place."""
        return self.tile_set.has(name) and place not in self._rank_at and self.bonds(place, name) >= 2

    def _free_rank(self, place, name):
        """The rank of a tile that is to be laid at this place."""
        check_place(place)
        rank = self.tile_set.rank_of(name)
        if place in self._rank_at:
            raise Taken(place)
        return rank

    def come(self, place, name):
        """The tile comes."""
        rank = self._free_rank(place, name)
        bonds = self.bonds(place, name)
        if bonds < 2:
            raise Loose(place, bonds)
        self._put(place, rank)

    def slip(self, place, name):
        """The tile sticks by chance, with whatever bonds."""
        self._put(place, self._free_rank(place, name))

    def check_hole(self, places):
        """Only places other than the seed's can be cut."""
        for place in places:
            if not is_place(place) or place == self.seed_place:
                raise BadPlace(place)

    def cut(self, places):
        """The tiles at these places go; returns how many went."""
        self.check_hole(places)
        gone = [place for place in sorted(set(places)) if place in self._rank_at]
        touched = {}
        for place in gone:
            del self._rank_at[place]
            touched[place] = True
            for other in places_around(place):
                touched[other] = True
        for place in touched:
            self._look_at(place)
        return len(gone)

    def twin(self):
        """Another bed with the same set, seed and tiles."""
        other = Bed(self.tile_set, self.seed_place, self.seed_name)
        other._rank_at = {place: self._rank_at[place] for place in self._rank_at}
        other._ready = {place: True for place in self._ready}
        return other
