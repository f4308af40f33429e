"""Bounds on one reading less another, each as one whole number.

2 c + 1 is "at most c", 2 c is "less than c", and NO_BOUND is none. So of two
bounds the smaller number is the narrower one.
"""

NO_BOUND = 1073741824
LEAST_BOUND = -2097152
LARGEST_BOUND = 2097153
AT_MOST_ZERO = 1


def at_most(c):
    return 2 * c + 1


def is_bound(number):
    return number == NO_BOUND or LEAST_BOUND <= number <= LARGEST_BOUND


def together(one, other):
    """The bound on i less j that comes of one on i less k and one on k less j."""
    if one == NO_BOUND or other == NO_BOUND:
        return NO_BOUND
    # Two last bits would make 2, one alone would stay: only two of "at most" make "at most".
    return one + other - ((one | other) & 1)


def keeps(bound, difference, whole):
    """Whether difference, told in so many parts of a whole, is within the bound."""
    if bound == NO_BOUND:
        return True
    limit = (bound // 2) * whole
    return difference < limit or (difference == limit and bound % 2 == 1)
