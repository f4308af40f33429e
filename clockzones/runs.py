"""What the runs of a machine reach."""

from clockzones.zones import SIMPLE_MOST, both, is_empty, later, set_to, wide, within


class Reach:
    """Readings that runs by one row reach in a place.

    The row is that of before, and then edge; with no before it has no edges.
    """

    def __init__(self, place, zone, before, edge):
        self.place = place
        self.zone = zone
        self.before = before
        self.edge = edge


def waited(z, stay):
    """All readings that come of those of z in the stay by waiting."""
    # A zone has all that lies between two of its readings: if the end is in the stay, so is the way.
    return both(later(both(z, stay)), stay)


def begun(machine):
    return waited(machine.first, machine.stays[0])


def gone(machine, edge, z):
    """All readings that come of z by an edge and by waiting behind it."""
    return waited(set_to(edge.clocks, 0, both(z, edge.when)), machine.stays[edge.end])


def explored(machine):
    """What runs reach, by their rows: the shorter ahead, of one length those with lesser numbers."""
    found = []
    widest = [[] for stay in machine.stays]
    take(Reach(0, blurred(begun(machine)), None, None), found, widest)
    done = 0
    while done < len(found):
        here = found[done]
        for number, edge in enumerate(machine.edges):
            if edge.begin == here.place:
                zone = blurred(gone(machine, edge, here.zone))
                take(Reach(edge.end, zone, here, number), found, widest)
        done += 1
    return found


def blurred(z):
    """z with readings that no simple zone can tell from its own, now or by any row to come.

    Without it the bounds could grow for ever; with it there are but so many zones.
    """
    return wide(SIMPLE_MOST, z)


def take(reach, found, widest):
    others = widest[reach.place]
    # What lies within what an earlier row reaches goes on in no way that the earlier one can't.
    if is_empty(reach.zone) or is_within_one(reach.zone, others):
        return
    found.append(reach)
    widest[reach.place] = [other for other in others if not within(other, reach.zone)] + [reach.zone]


def is_within_one(z, others):
    for other in others:
        if within(z, other):
            return True
    return False


def first_in(reaches, place, z):
    """The first that has readings of z in the place, or None."""
    for reach in reaches:
        if reach.place == place and not is_empty(both(reach.zone, z)):
            return reach
    return None


def row_to(reach):
    row = []
    while reach.before is not None:
        row.append(reach.edge)
        reach = reach.before
    return list(reversed(row))
