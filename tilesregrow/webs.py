"""The bonds of an end, and what can lie of it while one of its places stays empty."""

from tilesregrow.beds import beside


class Web:
    """The bonds that hold the tiles of a run of a bed on the end behind it.

    A rival can come at a place of the run just if the tiles that can lie while this place stays empty hold it, since
    ahead of the first wrong tile only tiles of the end lie.
    """

    def __init__(self, bed, end, run):
        self._end = end
        self._below = bed.places()
        self.places = tuple(sorted([place for place, _ in run]))
        # From each place to those of the run whose tiles bond with its tile.
        self._ties = {}
        for place, name in run:
            for other, strength in self._bonded(place, name):
                self._ties.setdefault(other, []).append((place, strength))

    def _bonded(self, place, name):
        """The pairs (place beside, strength) of the bonds that this tile has there with tiles of the end."""
        strengths = self._end.bonds_by_side(place, name)
        return [(other, strength) for other, strength in zip(beside(place), strengths) if strength > 0]

    def rivals_at(self, place):
        """The names, in order, of the rivals at a place of the run."""
        own = self._end.at(place)
        return [name for name in self._end.fitting(place) if name != own]

    def bonds_with(self, place, name, lying):
        """The bonds of a tile at a place with those tiles of the end that lie at the places of a dict."""
        return sum([strength for other, strength in self._bonded(place, name) if other in lying])

    def comings_without(self, empty):
        """The pairs of the run's places that can get their tiles while one stays empty, in such an order."""
        found = list(self._below)
        bonds = {}
        index = 0
        while index < len(found):
            ties = self._ties.get(found[index], ())
            index += 1
            for other, strength in ties:
                before = bonds.get(other, 0)
                bonds[other] = before + strength
                if before < 2 and bonds[other] >= 2 and other != empty:
                    found.append(other)
        return tuple([(place, self._end.at(place)) for place in found[len(self._below):]])

    def lying_behind(self, comings):
        """A dict with the places of the bed and of these comings."""
        lying = {place: True for place in self._below}
        for place, _ in comings:
            lying[place] = True
        return lying

    def keeps_out(self, place, name, without):
        """Whether the places of without are a wall against this rival: no tile of the end goes beyond them."""
        lying = {other: True for other in without}
        if place in lying or not self._bounds(lying):
            return False
        return not self._leads_on(lying, place) and self.bonds_with(place, name, lying) < 2

    def _bounds(self, lying):
        """Whether the dict has all places of the bed, and places of the end alone."""
        if not all([place in lying for place in self._below]):
            return False
        return all([self._end.at(place) is not None for place in lying])

    def _leads_on(self, lying, empty):
        """Whether the end's tile at one more place than these, not the empty one, has bonds of two with theirs."""
        bonds = {}
        for place in lying:
            for other, strength in self._ties.get(place, ()):
                bonds[other] = bonds.get(other, 0) + strength
        return any([bonds[other] >= 2 and other != empty and other not in lying for other in bonds])
