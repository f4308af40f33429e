"""What is reckoned with zones.

form takes any sixteen bounds. Every other function takes zones in form alone
and gives one back in form, so an answer can't hang on how a set was told.
The bounds within may lie beyond those that may be told: what is out of reach
halfway may be back in reach at the end.
"""

from clockzones.bounds import AT_MOST_ZERO, NO_BOUND, at_most, together

READINGS = (0, 1, 2, 3)
CLOCKS = (1, 2, 3)
SIZE = 16


def cell(i, j):
    return 4 * i + j


def has_clock(clocks, clock):
    return (clocks >> clock) % 2 == 1


def form(numbers):
    row = list(numbers)
    bound_by_nature(row)
    for k in READINGS:
        narrow_through(row, k)
    # A reading that must be less than itself: no readings can do that.
    if any([row[cell(i, i)] < AT_MOST_ZERO for i in READINGS]):
        return [0] * SIZE
    return row


def bound_by_nature(row):
    """No reading is below 0, and none is apart from itself, whatever the row says."""
    for i in READINGS:
        row[cell(0, i)] = min(row[cell(0, i)], AT_MOST_ZERO)
        row[cell(i, i)] = min(row[cell(i, i)], AT_MOST_ZERO)


def narrow_through(row, k):
    for i in READINGS:
        for j in READINGS:
            round_about = together(row[cell(i, k)], row[cell(k, j)])
            row[cell(i, j)] = min(row[cell(i, j)], round_about)


def is_empty(z):
    return z[0] < AT_MOST_ZERO


def both(z, w):
    return form([min(z[k], w[k]) for k in range(SIZE)])


def hull(z, w):
    # The zeros of the empty set's form are no bounds that its readings need.
    if is_empty(z):
        return list(w)
    if is_empty(w):
        return list(z)
    return form([max(z[k], w[k]) for k in range(SIZE)])


def later(z):
    row = list(z)
    for clock in CLOCKS:
        row[cell(clock, 0)] = NO_BOUND
    return form(row)


def sooner(z):
    row = list(z)
    for clock in CLOCKS:
        row[cell(0, clock)] = NO_BOUND
    return form(row)


def free(clocks, z):
    row = list(z)
    for clock in CLOCKS:
        if has_clock(clocks, clock):
            forget(row, clock)
    return form(row)


def forget(row, clock):
    # Its diagonal may go too: form puts it back, and the empty set is still told by number 0.
    for other in READINGS:
        row[cell(clock, other)] = NO_BOUND
        row[cell(other, clock)] = NO_BOUND


def pinned(clocks, at, z):
    """The readings of z at which each of these clocks reads at."""
    row = list(z)
    for clock in CLOCKS:
        if has_clock(clocks, clock):
            row[cell(clock, 0)] = min(row[cell(clock, 0)], at_most(at))
            row[cell(0, clock)] = min(row[cell(0, clock)], at_most(-at))
    return form(row)


def set_to(clocks, at, z):
    return pinned(clocks, at, free(clocks, z))


def back(clocks, at, z):
    return free(clocks, pinned(clocks, at, z))


def wide(most, z):
    # The diagonal needs no care: its 1, or the empty set's 0, is never outside.
    return form([widened(most, bound) for bound in z])


def widened(most, bound):
    if bound > at_most(most):
        return NO_BOUND
    return max(bound, -2 * most)


def within(z, w):
    """Whether all of z is in w."""
    return is_empty(z) or all([z[k] <= w[k] for k in range(SIZE)])
