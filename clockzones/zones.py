"""What is reckoned with zones.

form and is_simple take any sixteen bounds. Every other function takes zones in
form alone and gives them back in form, so an answer can't hang on how a set was
told.
The bounds within may lie beyond those that may be told: what is out of reach
halfway may be back in reach at the end.
"""

from clockzones.bounds import AT_MOST_ZERO, NO_BOUND, at_most, keeps, together

READINGS = (0, 1, 2, 3)
CLOCKS = (1, 2, 3)
SIZE = 16
SIMPLE_MOST = 4


def cell(i, j):
    return 4 * i + j


def has_clock(clocks, clock):
    return (clocks >> clock) % 2 == 1


def form(numbers):
    row = list(numbers)
    bound_by_nature(row)
    for k in READINGS:
        narrow_through(row, k)
    # A reading that must be less than itself: no readings can do that.
    if any([row[cell(i, i)] < AT_MOST_ZERO for i in READINGS]):
        return [0] * SIZE
    return row


def bound_by_nature(row):
    """No reading is below 0, and none is apart from itself, whatever the row says."""
    for i in READINGS:
        row[cell(0, i)] = min(row[cell(0, i)], AT_MOST_ZERO)
        row[cell(i, i)] = min(row[cell(i, i)], AT_MOST_ZERO)


def narrow_through(row, k):
    # All that is reckoned comes down to these loops: what can be looked up once is.
    from_k = row[cell(k, 0):cell(k + 1, 0)]
    for i in READINGS:
        to_k = row[cell(i, k)]
        if to_k != NO_BOUND:
            start = cell(i, 0)
            for j in READINGS:
                round_about = together(to_k, from_k[j])
                if round_about < row[start + j]:
                    row[start + j] = round_about


def everything():
    return form([NO_BOUND] * SIZE)


def is_simple(row):
    """Whether a row of sixteen bounds, as it is told and not by its form, is a simple zone."""
    return all([is_simple_bound(k // 4, k % 4, row[k]) for k in range(SIZE)])


def is_simple_bound(i, j, bound):
    if bound == NO_BOUND:
        return True
    if i > 0 and j > 0 and i != j:
        return False
    return abs(bound // 2) <= SIMPLE_MOST


def is_empty(z):
    return z[0] < AT_MOST_ZERO


def both(z, w):
    if within(z, w):
        return list(z)
    return form([min(z[k], w[k]) for k in range(SIZE)])


def hull(z, w):
    # The zeros of the empty set's form are no bounds that its readings need.
    if is_empty(z):
        return list(w)
    if is_empty(w):
        return list(z)
    return form([max(z[k], w[k]) for k in range(SIZE)])


def later(z):
    row = list(z)
    for clock in CLOCKS:
        row[cell(clock, 0)] = NO_BOUND
    return form(row)


def sooner(z):
    row = list(z)
    for clock in CLOCKS:
        row[cell(0, clock)] = NO_BOUND
    return form(row)


def free(clocks, z):
    row = list(z)
    for clock in CLOCKS:
        if has_clock(clocks, clock):
            forget(row, clock)
    return form(row)


def forget(row, clock):
    # Its diagonal may go too: form puts it back, and the empty set is still told by number 0.
    for other in READINGS:
        row[cell(clock, other)] = NO_BOUND
        row[cell(other, clock)] = NO_BOUND


def pinned(clocks, at, z):
    """The readings of z at which each of these clocks reads at."""
    row = list(z)
    for clock in CLOCKS:
        if has_clock(clocks, clock):
            row[cell(clock, 0)] = min(row[cell(clock, 0)], at_most(at))
            row[cell(0, clock)] = min(row[cell(0, clock)], at_most(-at))
    return form(row)


def set_to(clocks, at, z):
    return pinned(clocks, at, free(clocks, z))


def back(clocks, at, z):
    return free(clocks, pinned(clocks, at, z))


def wide(most, z):
    # The diagonal needs no care: its 1, or the empty set's 0, is never outside.
    return form([widened(most, bound) for bound in z])


def widened(most, bound):
    if bound > at_most(most):
        return NO_BOUND
    return max(bound, -2 * most)


def within(z, w):
    """Whether all of z is in w."""
    if is_empty(z):
        return True
    for k in range(SIZE):
        if z[k] > w[k]:
            return False
    return True


def has_readings(readings, whole, z):
    """Whether z has the readings of the clocks 1 to 3, told in so many parts of a whole."""
    measured = [0] + readings
    return all([keeps(z[k], measured[k // 4] - measured[k % 4], whole) for k in range(SIZE)])
