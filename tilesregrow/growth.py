"""How tiles come on a bed one behind the other."""

from heapq import heappop, heappush

from tilesregrow.beds import beside
from tilesregrow.errors import BadNumber
from tilesregrow.kinds import is_number


class Growth:
    """A bed on which each time the first pair of may_come() comes; nothing else changes it meanwhile."""

    def __init__(self, bed):
        self._bed = bed
        # What may come at a place may still come there behind all comings, so that no place is ever queued in vain.
        self._queue = []
        self._queued = {}
        self._queue_up(bed.ready_places())

    def _queue_up(self, places):
        for place in places:
            if place not in self._queued and self._bed.is_ready(place):
                self._queued[place] = True
                heappush(self._queue, place)

    def goes_on(self):
        """Whether something may come."""
        return len(self._queue) > 0

    def next_pair(self):
        """The pair that comes next, or None if nothing may come."""
        if not self._queue:
            return None
        place = self._queue[0]
        return (place, self._bed.first_fitting(place))

    def step(self):
        """The next pair comes; returns it."""
        place, name = self.next_pair()
        heappop(self._queue)
        self._bed.come(place, name)
        self._queue_up(beside(place))
        return (place, name)


def bring(bed, pairs):
    """Each of the pairs comes on this bed, in their order."""
    for place, name in pairs:
        bed.come(place, name)


def bed_behind(bed, run):
    """Another bed, behind the run; None if the pairs, with any data as names, are no run of the bed."""
    grown = bed.twin()
    for place, name in run:
        if not grown.is_coming(place, name):
            return None
        grown.come(place, name)
    return grown


def check_count(many):
    if not is_number(many):
        raise BadNumber("many", many)


def grow_on(bed, many):
    """So many times, or as long as something may come, the first pair comes; returns how many came."""
    check_count(many)
    growth = Growth(bed)
    came = 0
    while came < many and growth.goes_on():
        growth.step()
        came += 1
    return came


def rounds_on(bed, many):
    """So many rounds, or as long as something may come; returns how many there were."""
    check_count(many)
    done = 0
    comings = bed.first_pairs()
    while done < many and comings:
        bring(bed, comings)
        done += 1
        comings = bed.first_pairs()
    return done
