"""What may be handed over, and what may be told."""

from clockzones.bounds import is_bound
from clockzones.refusals import NotAllowed, OutOfReach
from clockzones.zones import SIZE, form, is_simple

ALL_CLOCKS = 14
LARGEST_WHOLE = 1048576


def read_zone(row):
    if len(row) != SIZE or not all([is_bound(number) for number in row]):
        raise NotAllowed()
    return form(row)


def read_simple(row):
    z = read_zone(row)
    if not is_simple(row):
        raise NotAllowed()
    return z


def check_clocks(clocks):
    if (clocks | ALL_CLOCKS) != ALL_CLOCKS:
        raise NotAllowed()


def check_size(whole):
    if whole > LARGEST_WHOLE:
        raise NotAllowed()


def told(z):
    if not all([is_bound(number) for number in z]):
        raise OutOfReach()
    return z
