"""The answers to the calls that ask of zones alone."""

from clockzones.checks import check_clocks, check_size, read_zone, told
from clockzones.reading import BACK, BOTH, EMPTY, FORM, FREE, HAS, HULL, IN_ZONE, LATER, SET, SOONER, WIDE
from clockzones.refusals import NotAllowed
from clockzones.zones import back, both, free, has_readings, hull, is_empty, later, set_to, sooner, wide, within


def zone_answer(call):
    """The numbers that a call is answered with; a refusal is raised."""
    # All that -1 is due for is looked at before anything is reckoned: it goes ahead of -2.
    handed = [read_zone(row) for row in call.rows]
    check_wholes(call.number, call.wholes)
    if call.number in (IN_ZONE, HAS, EMPTY):
        return [1 if holds(call.number, call.wholes, handed) else 0]
    return told(reckoned(call.number, call.wholes, handed))


def check_wholes(number, wholes):
    if number in (SET, BACK, FREE):
        check_clocks(wholes[0])
    if number in (SET, BACK):
        check_size(wholes[1])
    if number == WIDE:
        check_size(wholes[0])
    if number == HAS and wholes[3] == 0:
        raise NotAllowed()


def holds(number, wholes, handed):
    z = handed[0]
    if number == IN_ZONE:
        return within(z, handed[1])
    if number == HAS:
        return has_readings(wholes[:3], wholes[3], z)
    return is_empty(z)


def reckoned(number, wholes, handed):
    z = handed[0]
    if number == FORM:
        return z
    if number == BOTH:
        return both(z, handed[1])
    if number == HULL:
        return hull(z, handed[1])
    if number == LATER:
        return later(z)
    if number == SOONER:
        return sooner(z)
    if number == SET:
        return set_to(wholes[0], wholes[1], z)
    if number == BACK:
        return back(wholes[0], wholes[1], z)
    if number == FREE:
        return free(wholes[0], z)
    return wide(wholes[0], z)
