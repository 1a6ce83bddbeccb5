"""Which places of a valve block stick to each other, and how strongly.

A bond is a triple (place, place, strength) of two places side by side.
"""


def core_bonds(k):
    """The bonds of the core: cells of four places, which are weakly tied to their neighbours."""
    found = []
    for x in range(0, 2 * k, 2):
        for y in range(0, 2 * k, 2):
            found.append(((x, y), (x + 1, y), 2))
            found.append(((x, y), (x, y + 1), 2))
            found.append(((x + 1, y), (x + 1, y + 1), 2))
            found.append(((x, y + 1), (x + 1, y + 1), 2))
            if x < 2 * k - 2:
                found.append(((x + 1, y), (x + 2, y), 1))
            if y < 2 * k - 2:
                found.append(((x, y + 1), (x, y + 2), 1))
    return found


def gate_bonds(k):
    """The bonds of the gate, which lets only whole cores through."""
    d = 2 * k
    return [
        ((d - 1, d - 1), (d - 1, d), 2),
        ((d - 1, d - 1), (d, d - 1), 2),
        ((d - 1, d), (d, d), 1),
        ((d, d - 1), (d, d), 1),
    ]


def bus_bonds(k):
    """The bonds of the bus to the east."""
    d = 2 * k
    return [((d, d), (d + 1, d), 2)] + [((d + 1, y), (d + 1, y + 1), 2) for y in range(d)]


def valve_bonds(k, j, n):
    """The bonds of the valve with the number n, from 1 on, of the strand j to the east."""
    x = 2 * k + 2 * n
    y, z = valve_heights(j, n)
    found = [((x - 1, y), (x, y), 2), ((x, y), (x, z), 1), ((x - 1, z), (x, z), 1)]
    if n > 1:
        found.append(((x - 2, y), (x - 1, y), 2))
        found.append(((x - 1, y), (x - 1, z), 2))
    return found


def valve_heights(j, n):
    """The pair of the heights of the two arms of a valve; its corner has the height of the second one."""
    return (2 * j, 2 * j + 1) if n % 2 == 1 else (2 * j + 1, 2 * j)


def end_bonds(k, j):
    """The bonds between the last valve of a strand to the east and its output."""
    x = 4 * k - 2
    _, z = valve_heights(j, k - 1)
    found = [((x, z), (x + 1, z), 2)]
    if k % 2 == 0:
        found.append(((x + 1, 2 * j + 1), (x + 1, 2 * j), 2))
    return found


def eastern_bonds(k):
    """The bonds of the bus, the strands and their ends to the east."""
    found = bus_bonds(k)
    for j in range(k):
        for n in range(1, k):
            found.extend(valve_bonds(k, j, n))
        if k > 1:
            found.extend(end_bonds(k, j))
    return found


def exchanged(bond):
    """The bond with across and up exchanged in both places."""
    (x, y), (other_x, other_y), strength = bond
    return ((y, x), (other_y, other_x), strength)


def block_bonds(k):
    """The list of the bonds of a block, the lesser place first, ascending."""
    east = eastern_bonds(k)
    told = core_bonds(k) + gate_bonds(k) + east + [exchanged(bond) for bond in east]
    return sorted([(min(one, two), max(one, two), strength) for one, two, strength in told])


def block_places(k):
    """The list of the places of a block that hold tiles, ascending."""
    return sorted({place for one, two, _ in block_bonds(k) for place in (one, two)})


class Turning:
    """A block that comes although only its states stick, or only its letters.

    The deeds are the pairs ("come" or "slip", place), in such an order. By the inputs that stick, and by a slip for
    each cell of the first row or column, which has one bond then, each cell of the core has two.
    """

    def __init__(self, k, by_states):
        self._ties = {place: [] for place in block_places(k)}
        for one, two, strength in block_bonds(k):
            self._ties[one].append((two, strength))
            self._ties[two].append((one, strength))
        self._bonds = {place: 0 for place in self._ties}
        self._ready = []
        self._lying = {}
        self.deeds = []
        west = [(0, 2 * copy) for copy in range(k)]
        south = [(2 * copy, 0) for copy in range(k)]
        for place in west if by_states else south:
            self._hold(place, 1)
        for place in south if by_states else west:
            self._lay("slip", place)
            while self._ready:
                self._lay("come", self._ready.pop())

    def _hold(self, place, strength):
        """Some more strength holds at this place."""
        before = self._bonds[place]
        self._bonds[place] = before + strength
        if before < 2 and before + strength >= 2 and place not in self._lying:
            self._ready.append(place)

    def _lay(self, word, place):
        self.deeds.append((word, place))
        self._lying[place] = True
        for other, strength in self._ties[place]:
            self._hold(other, strength)
