"""The answers to the calls that reckon with zones alone."""

from clockzones.bounds import is_bound
from clockzones.reading import BACK, BOTH, FORM, FREE, HULL, IN_ZONE, LATER, SET, SOONER, WIDE
from clockzones.refusals import NotAllowed, OutOfReach
from clockzones.zones import SIZE, back, both, form, free, hull, later, set_to, sooner, wide, within

ALL_CLOCKS = 14
LARGEST_WHOLE = 1048576


def zone_answer(call):
    """The numbers that a call is answered with; a refusal is raised."""
    # All that -1 is due for is looked at before anything is reckoned: it goes ahead of -2.
    handed = [read_zone(row) for row in call.rows]
    check_wholes(call.number, call.wholes)
    if call.number == IN_ZONE:
        return [1 if within(handed[0], handed[1]) else 0]
    return told(reckoned(call.number, call.wholes, handed))


def read_zone(row):
    if len(row) != SIZE or not all([is_bound(number) for number in row]):
        raise NotAllowed()
    return form(row)


def check_wholes(number, wholes):
    if number in (SET, BACK, FREE):
        check_clocks(wholes[0])
    if number in (SET, BACK):
        check_size(wholes[1])
    if number == WIDE:
        check_size(wholes[0])


def check_clocks(clocks):
    if (clocks | ALL_CLOCKS) != ALL_CLOCKS:
        raise NotAllowed()


def check_size(whole):
    if whole > LARGEST_WHOLE:
        raise NotAllowed()


def reckoned(number, wholes, handed):
    z = handed[0]
    if number == FORM:
        return z
    if number == BOTH:
        return both(z, handed[1])
    if number == HULL:
        return hull(z, handed[1])
    if number == LATER:
        return later(z)
    if number == SOONER:
        return sooner(z)
    if number == SET:
        return set_to(wholes[0], wholes[1], z)
    if number == BACK:
        return back(wholes[0], wholes[1], z)
    if number == FREE:
        return free(wholes[0], z)
    return wide(wholes[0], z)


def told(z):
    if not all([is_bound(number) for number in z]):
        raise OutOfReach()
    return z
