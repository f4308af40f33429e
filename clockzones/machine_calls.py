"""The answers to the calls on the machine."""

from clockzones.checks import check_clocks, read_simple, told
from clockzones.clock_machine import Edge
from clockzones.reading import CAN, EDGE, INIT, LEAD, PLACE, PLACES, ROW
from clockzones.refusals import NoSuchRun, NotAllowed
from clockzones.runs import begun, first_in, gone, row_to

MOST_PLACES = 4
MOST_EDGES = 8
LONGEST_LEAD = 32


def machine_answer(machine, call):
    """The numbers that a call is answered with; a refusal is raised before anything is changed."""
    if call.number == PLACES:
        return places_answer(machine)
    if call.number == LEAD:
        return lead_answer(machine, call.rows[0])
    z = read_simple(call.rows[0])
    if call.number == INIT:
        return init_answer(machine, call.wholes[0], z)
    if call.number == EDGE:
        return edge_answer(machine, call.wholes, z)
    place = call.wholes[0]
    check_place(machine, place)
    if call.number == PLACE:
        machine.stay_in(place, z)
        return [0]
    reach = first_in(machine.reaches(), place, z)
    if call.number == CAN:
        return [0 if reach is None else 1]
    return row_answer(reach)


def check_place(machine, place):
    if place >= len(machine.stays):
        raise NotAllowed()


def init_answer(machine, places, first):
    if places < 1 or places > MOST_PLACES:
        raise NotAllowed()
    machine.begin_anew(places, first)
    return [0]


def edge_answer(machine, wholes, when):
    check_place(machine, wholes[0])
    check_place(machine, wholes[1])
    check_clocks(wholes[2])
    number = len(machine.edges)
    if number == MOST_EDGES:
        raise NotAllowed()
    machine.add_edge(Edge(wholes[0], wholes[1], wholes[2], when))
    return [number]


def row_answer(reach):
    if reach is None:
        raise NoSuchRun()
    row = row_to(reach)
    return [len(row)] + row


def places_answer(machine):
    reached = [reach.place for reach in machine.reaches()]
    places = sorted(set(reached))
    return [len(places)] + places


def lead_answer(machine, row):
    if len(row) > LONGEST_LEAD:
        raise NotAllowed()
    place = 0
    # Nothing is widened here: all that is asked is where this one row leads, exactly.
    zone = begun(machine)
    for number in row:
        if number >= len(machine.edges) or machine.edges[number].begin != place:
            raise NoSuchRun()
        zone = gone(machine, machine.edges[number], zone)
        place = machine.edges[number].end
    return [place] + told(zone)
