"""How the tests write zones and calls, and read answers."""

from clockzones.machine import answers

NONE = 1073741824
TOP = 1048576
LEAST = -2097152
LARGEST = 2097153
CLOCK_SETS = (0, 2, 4, 6, 8, 10, 12, 14)
ANYTHING = [NONE] * 16
EMPTY = [0] * 16


def at_most(c):
    return 2 * c + 1


def less(c):
    return 2 * c


def at_least(c):
    """As a bound on 0 less a reading."""
    return at_most(-c)


def more(c):
    return less(-c)


def zone(bounds):
    """Sixteen bounds that are none but for those given by (i, j)."""
    numbers = list(ANYTHING)
    for (i, j), bound in bounds.items():
        numbers[4 * i + j] = bound
    return numbers


def formed(bounds):
    """A form written by what differs from the form of all readings."""
    numbers = zone({(0, 0): 1, (0, 1): 1, (0, 2): 1, (0, 3): 1, (1, 1): 1, (2, 2): 1, (3, 3): 1})
    for (i, j), bound in bounds.items():
        numbers[4 * i + j] = bound
    return numbers


ALL = formed({})


def counted(numbers):
    return [len(numbers)] + list(numbers)


def form(z):
    return [0] + counted(z)


def both(z, w):
    return [1] + counted(z) + counted(w)


def hull(z, w):
    return [2] + counted(z) + counted(w)


def later(z):
    return [3] + counted(z)


def sooner(z):
    return [4] + counted(z)


def set_to(clocks, at, z):
    return [5, clocks, at] + counted(z)


def back(clocks, at, z):
    return [6, clocks, at] + counted(z)


def free(clocks, z):
    return [7, clocks] + counted(z)


def wide(most, z):
    return [8, most] + counted(z)


def in_zone(z, w):
    return [9] + counted(z) + counted(w)


def has(x, y, u, whole, z):
    return [10, x, y, u, whole] + counted(z)


def empty(z):
    return [11] + counted(z)


def init(places, first):
    return [12, places] + counted(first)


def place(p, stay):
    return [13, p] + counted(stay)


def edge(begin, end, clocks, when):
    return [14, begin, end, clocks] + counted(when)


def can(p, z):
    return [15, p] + counted(z)


def row(p, z):
    return [16, p] + counted(z)


def places():
    return [17]


def lead(edges):
    return [18] + counted(edges)


def all_calls_on(z):
    """Each call that takes any zone, with z as its one wrong or odd argument, by name."""
    return {
        "form": form(z),
        "both, first": both(z, ALL),
        "both, second": both(ALL, z),
        "hull, first": hull(z, EMPTY),
        "hull, second": hull(EMPTY, z),
        "later": later(z),
        "sooner": sooner(z),
        "set": set_to(2, 1, z),
        "back": back(2, 1, z),
        "free": free(2, z),
        "wide": wide(5, z),
        "in, first": in_zone(z, ALL),
        "in, second": in_zone(ALL, z),
        "has": has(1, 2, 3, 4, z),
        "empty": empty(z),
    }


def simple_calls_on(z):
    """Each call that takes a simple zone alone, with z as its one wrong or odd argument, by name."""
    return {
        "init": init(2, z),
        "place": place(0, z),
        "edge": edge(0, 0, 2, z),
        "can": can(0, z),
        "row": row(0, z),
    }


def machine(places, first, edges, stays=None):
    """The calls that make a machine; each edge is (from, to, clocks, when), and stays go by place."""
    calls = init(places, first)
    for p, stay in (stays or {}).items():
        calls += place(p, stay)
    for one in edges:
        calls += edge(*one)
    return calls


def split(numbers):
    """What is answered, call by call."""
    found = []
    start = 0
    while start < len(numbers):
        end = start + 1 + numbers[start]
        if end > len(numbers):
            raise ValueError("the last answer is cut off")
        found.append(numbers[start + 1:end])
        start = end
    return found


def answer(call):
    """The one answer to one call."""
    found = split(answers(list(call)))
    if len(found) != 1:
        raise ValueError("not one answer")
    return found[0]


def last_answer(calls):
    """The answer to the last of several calls."""
    return split(answers(list(calls)))[-1]


def told(call):
    """What is told behind the 0 of an answer that's no refusal."""
    numbers = answer(call)
    if numbers[0] != 0:
        raise ValueError(f"refused: {numbers}")
    return numbers[1:]
