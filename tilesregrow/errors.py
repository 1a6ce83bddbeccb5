"""The errors of the package."""


class TileError(ValueError):
    """The base of all errors of the package."""


class BadText(TileError):
    """A text is wrong at this word; (0, 0) stands for a value that is no string."""

    def __init__(self, line, column):
        self.line = line
        self.column = column


class BadNumber(TileError):
    """A number is not of its kind."""

    def __init__(self, what, number):
        self.what = what
        self.number = number


class BadName(TileError):
    """A value is no NAME, or no name of its kind."""

    def __init__(self, name):
        self.name = name


class BadTile(TileError):
    """A tile, a set of tiles or a machine is not of its kind."""

    def __init__(self, tile):
        self.tile = tile


class BadPlace(TileError):
    """A value is no place, or not one that may be named here."""

    def __init__(self, place):
        self.place = place


class NoName(TileError):
    """Nothing has this name."""

    def __init__(self, name):
        self.name = name


class TakenName(TileError):
    """Something else has this name."""

    def __init__(self, name):
        self.name = name


class NotThere(TileError):
    """Nothing lies at this place."""

    def __init__(self, place):
        self.place = place


class Taken(TileError):
    """Something lies at this place."""

    def __init__(self, place):
        self.place = place


class Loose(TileError):
    """Too few bonds hold here."""

    def __init__(self, place, bonds):
        self.place = place
        self.bonds = bonds


class TooMany(TileError):
    """There are too many of something."""

    def __init__(self, what, many, limit):
        self.what = what
        self.many = many
        self.limit = limit


class NotKept(TileError):
    """A promise would not be kept."""

    def __init__(self, promise, witness):
        self.promise = promise
        self.witness = witness


class NothingToUndo(TileError):
    """No edit can be taken back."""

    def __init__(self):
        pass


class NothingToRedo(TileError):
    """No edit can be done again."""

    def __init__(self):
        pass
