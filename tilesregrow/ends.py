"""Rounds, and whether a bed has one end and heals to it."""

from tilesregrow.beds import Bed
from tilesregrow.errors import BadNumber, NotKept, TooMany
from tilesregrow.growth import Growth, bed_behind, bring
from tilesregrow.kinds import is_number
from tilesregrow.webs import Web


class OneEnd:
    """A bed has one end, the bed behind comings; the walls keep all rivals out."""

    def __init__(self, comings, walls):
        self.comings = comings
        self.walls = walls


class Parting:
    """Two runs of a bed that bring unlike tiles to the same place."""

    def __init__(self, one, two):
        self.one = one
        self.two = two


class Heals:
    """An ended bed heals from all its holes; comings make it from its seed alone."""

    def __init__(self, comings):
        self.comings = comings


class Scar:
    """An ended bed does not heal from this hole: comings bring a wrong tile, or end before all is there."""

    def __init__(self, hole, comings):
        self.hole = hole
        self.comings = comings


def check_most(most):
    if not is_number(most):
        raise BadNumber("most", most)


def check_many(many, most):
    if many > most:
        raise TooMany("tiles", many, most)


def check_ended(bed):
    pair = bed.first_pair()
    if pair is not None:
        raise NotKept("ended", pair)


def rounds_of(bed, most):
    """The rounds of a bed, each the tuple of the pairs that come in it; the bed stays as it is."""
    check_most(most)
    grown = bed.twin()
    found = []
    comings = grown.first_pairs()
    while comings:
        check_many(grown.how_many() + len(comings), most)
        bring(grown, comings)
        found.append(comings)
        comings = grown.first_pairs()
    return tuple(found)


def settle(bed, most):
    """The tiles of all rounds come on this bed; returns how many they are."""
    comings = [pair for comings in rounds_of(bed, most) for pair in comings]
    bring(bed, comings)
    return len(comings)


def first_run(bed, most):
    """The run in which each time the first pair that may come comes; the bed stays as it is."""
    check_most(most)
    grown = bed.twin()
    growth = Growth(grown)
    run = []
    while growth.next_pair() is not None:
        check_many(grown.how_many() + 1, most)
        run.append(growth.step())
    return tuple(run)


def ends_of(bed, most):
    """A OneEnd if the bed has one end, otherwise a Parting; the bed stays as it is."""
    comings = first_run(bed, most)
    web = Web(bed, bed_behind(bed, comings), comings)
    walls = []
    for place in web.places:
        rivals = web.rivals_at(place)
        if not rivals:
            continue
        ahead = web.comings_without(place)
        lying = web.lying_behind(ahead)
        for name in rivals:
            if web.bonds_with(place, name, lying) >= 2:
                return Parting((*ahead, (place, name)), run_up_to(comings, place))
            walls.append((place, name, tuple(sorted(lying))))
    return OneEnd(comings, tuple(walls))


def run_up_to(run, place):
    """The beginning of a run that ends with the pair of this place."""
    places = [other for other, _ in run]
    return run[:places.index(place) + 1]


def is_parting(bed, paper):
    """Whether the paper has two runs of the bed that part."""
    if not paper.one or not paper.two:
        return False
    if bed_behind(bed, paper.one) is None or bed_behind(bed, paper.two) is None:
        return False
    one_place, one_name = paper.one[-1]
    two_place, two_name = paper.two[-1]
    return one_place == two_place and one_name != two_name


def is_one_end(bed, paper):
    """Whether the paper has a run of the bed to an end, and a wall against each rival of it."""
    end = bed_behind(bed, paper.comings)
    if end is None or end.first_pair() is not None:
        return False
    web = Web(bed, end, paper.comings)
    told = {}
    for place, name, without in paper.walls:
        told.setdefault((place, name), []).append(without)
    for place in web.places:
        for name in web.rivals_at(place):
            if not is_kept_out(web, place, name, told.get((place, name), ())):
                return False
    return True


def is_kept_out(web, place, name, lots):
    """Whether one of the lots of places is a wall against this rival."""
    for without in lots:
        if web.keeps_out(place, name, without):
            return True
    return False


def torn_bed(bed, hole):
    """Another bed, of which the hole was cut."""
    torn = bed.twin()
    torn.cut(hole)
    return torn


def run_within(torn, bed):
    """The first run of the torn bed, but only up to its first pair that the ended bed does not have."""
    growth = Growth(torn.twin())
    run = []
    while growth.next_pair() is not None:
        place, name = growth.step()
        run.append((place, name))
        if bed.at(place) != name:
            break
    return tuple(run)


def is_strange(bed, run):
    """Whether a pair of the run is not among the pairs of the bed."""
    return any([bed.at(place) != name for place, name in run])


def scar_of(bed, hole):
    """None if the ended bed heals from the hole, otherwise a Scar; the bed stays as it is."""
    bed.check_hole(hole)
    check_ended(bed)
    gone = tuple([place for place in sorted(set(hole)) if bed.at(place) is not None])
    torn = torn_bed(bed, gone)
    run = run_within(torn, bed)
    if is_strange(bed, run) or len(run) < len(gone):
        return Scar(gone, run)
    # Now the first run leads back to the bed, so that the torn bed heals just if this is its one end.
    paper = ends_of(torn, bed.how_many())
    if isinstance(paper, Parting):
        return Scar(gone, paper.one)
    return None


def scar_at(bed, place):
    """A Scar if another tile fits at this place than the one that lies there, otherwise None."""
    own = bed.at(place)
    for name in bed.fitting(place):
        if name != own:
            return Scar((place,), ((place, name),))
    return None


def healing_of(bed):
    """A Heals if the ended bed heals from all its holes, otherwise a Scar; the bed stays as it is."""
    check_ended(bed)
    hole = tuple([place for place in bed.places() if place != bed.seed_place])
    for place in hole:
        scar = scar_at(bed, place)
        if scar is not None:
            return scar
    # Now no run behind a hole brings a wrong tile, so that the bed heals if it comes back from its seed alone.
    run = run_within(torn_bed(bed, hole), bed)
    if len(run) < len(hole):
        return Scar(hole, run)
    return Heals(run)


def is_hole(bed, places):
    """Whether tiles lie at all these places, and none is the seed's."""
    return all([bed.at(place) is not None and place != bed.seed_place for place in places])


def is_scar(bed, paper):
    """Whether the paper has a hole of the ended bed and a run behind it that does not lead back."""
    if bed.first_pair() is not None or not is_hole(bed, paper.hole):
        return False
    end = bed_behind(torn_bed(bed, paper.hole), paper.comings)
    if end is None:
        return False
    return is_strange(bed, paper.comings) or (end.first_pair() is None and end.how_many() < bed.how_many())


def is_healing(bed, paper):
    """Whether the paper has a run from the seed to the ended bed, at whose places no other tile fits."""
    if bed.first_pair() is not None:
        return False
    made = bed_behind(Bed(bed.tile_set, bed.seed_place, bed.seed_name), paper.comings)
    if made is None or made.pairs() != bed.pairs():
        return False
    for place, own in bed.pairs():
        if place != bed.seed_place and any([name != own for name in bed.fitting(place)]):
            return False
    return True
