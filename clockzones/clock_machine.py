"""A machine with clocks: its places, their stays, its edges, and where its runs begin."""

from clockzones.runs import explored
from clockzones.zones import everything


class Edge:
    def __init__(self, begin, end, clocks, when):
        self.begin = begin
        self.end = end
        self.clocks = clocks
        self.when = when


class Machine:
    """stays has one zone for each place; all zones are kept in form."""

    def __init__(self):
        self.begin_anew(1, everything())

    def begin_anew(self, places, first):
        self.stays = [everything()] * places
        self.edges = []
        self.first = first
        self.known = None

    def stay_in(self, place, stay):
        self.stays[place] = stay
        self.known = None

    def add_edge(self, edge):
        self.edges.append(edge)
        self.known = None

    def reaches(self):
        """What the runs reach, searched for once as long as the machine stays as it is."""
        if self.known is None:
            self.known = explored(self)
        return self.known
