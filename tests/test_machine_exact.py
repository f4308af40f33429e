"""Random machines, asked of the program and reckoned in another way.

can, row and places go against a walk through single readings: of all readings
that no simple zone can tell apart, now or later, one stands for all of them.
lead goes against one system of bounds on the moments of a run.
"""

import itertools
import random
import unittest

from tests.helper import ANYTHING, EMPTY, NONE, can, last_answer, lead, machine, places, row, split, zone
from clockzones.machine import answers

# A reading is its whole part and its rank: 0 on the whole, else 1 to 3 by its fraction among the three.
BEYOND = (4, 1)
SINGLE = [(whole, rank) for whole in range(4) for rank in range(4)] + [(4, 0), BEYOND]


def ranked(readings):
    """The same with ranks that are as small as can be; beyond 4 a reading has but one."""
    known = sorted({rank for whole, rank in readings if whole < 4 and rank})
    return tuple(BEYOND if whole == 4 and rank else (whole, known.index(rank) + 1 if rank else 0)
                 for whole, rank in readings)


ALL_READINGS = sorted({ranked(readings) for readings in itertools.product(SINGLE, repeat=3)})


def after_a_while(readings):
    """What comes next by waiting, or None if nothing new does."""
    inner = [one for one in readings if one != BEYOND]
    if not inner:
        return None
    if any(rank == 0 for _, rank in inner):
        return ranked([BEYOND if one in (BEYOND, (4, 0)) else (one[0], one[1] + 1) for one in readings])
    top = max(rank for _, rank in inner)
    return ranked([(one[0] + 1, 0) if one != BEYOND and one[1] == top else one for one in readings])


def keeps(readings, z):
    """For simple zones alone."""
    measured = [0] + [4 * whole + rank for whole, rank in readings]
    for k, bound in enumerate(z):
        difference = measured[k // 4] - measured[k % 4]
        limit = 4 * (bound // 2)
        if bound != NONE and not (difference < limit or (difference == limit and bound % 2)):
            return False
    return True


def set_back(readings, clocks):
    return ranked([(0, 0) if (clocks >> clock) & 1 else readings[clock - 1] for clock in (1, 2, 3)])


class Walk:
    """All states that are reached, each with the row that is asked for."""

    def __init__(self, first, edges, stays):
        self.edges = edges
        self.stays = stays
        self.rows = {}
        level = self.entered([((), 0, readings) for readings in ALL_READINGS if keeps(readings, first)])
        while level:
            level = self.entered(sorted(self.onward(level)))

    def onward(self, level):
        return [(taken + (number,), edge[1], set_back(readings, edge[2]))
                for taken, p, readings in level for number, edge in enumerate(self.edges)
                if edge[0] == p and keeps(readings, edge[3])]

    def entered(self, states):
        """The new ones among the states, and what comes of them by waiting."""
        new = []
        for taken, p, readings in states:
            while readings is not None and keeps(readings, self.stays[p]) and (p, readings) not in self.rows:
                self.rows[(p, readings)] = taken
                new.append((taken, p, readings))
                readings = after_a_while(readings)
        return new

    def row_to(self, p, z):
        found = [(len(taken), taken) for (at, readings), taken in self.rows.items() if at == p and keeps(readings, z)]
        return min(found)[1] if found else None


def added(one, other):
    return None if one is None or other is None else (one[0] + other[0], one[1] or other[1])


def narrower(one, other):
    """Of two bounds (c, whether it is less than): None is none."""
    if one is None or other is None:
        return one or other
    return min(one, other, key=lambda bound: (bound[0], not bound[1]))


class Moments:
    """The moments of a run: its beginning, each edge, its end; and, for each clock, when it read 0."""

    def __init__(self, length):
        self.size = length + 5
        self.end = length + 1
        self.bounds = {(moment, moment): (0, False) for moment in range(self.size)}
        # Each at or behind the one before; and no clock reads less than 0.
        for moment in range(self.end):
            self.bind(moment, moment + 1, (0, False))
        self.zero = [None] + [length + 2 + k for k in range(3)]
        for clock in (1, 2, 3):
            self.bind(self.zero[clock], 0, (0, False))

    def bind(self, one, other, bound):
        self.bounds[(one, other)] = narrower(self.bounds.get((one, other)), bound)

    def keep(self, moment, zero, z):
        marks = [moment] + zero[1:]
        for k, bound in enumerate(z):
            if bound != NONE:
                # Reading i less reading j: the clock that is ahead was set to 0 before.
                self.bind(marks[k % 4], marks[k // 4], (bound // 2, bound % 2 == 0))

    def form(self, zero):
        every = range(self.size)
        for k, i, j in itertools.product(every, every, every):
            self.bind(i, j, added(self.bounds.get((i, k)), self.bounds.get((k, j))))
        if any(self.bounds[(k, k)] != (0, False) for k in every):
            return EMPTY
        marks = [self.end] + zero[1:]
        found = [self.bounds.get((marks[j], marks[i])) for i in range(4) for j in range(4)]
        return [NONE if bound is None else 2 * bound[0] + (0 if bound[1] else 1) for bound in found]


def led(first, edges, stays, taken):
    moments = Moments(len(taken))
    zero = list(moments.zero)
    moments.keep(0, zero, first)
    moments.keep(0, zero, stays[0])
    p = 0
    for moment, number in enumerate(taken, start=1):
        moments.keep(moment, zero, stays[p])
        moments.keep(moment, zero, edges[number][3])
        zero = [moment if (edges[number][2] >> clock) & 1 else zero[clock] for clock in range(4)]
        p = edges[number][1]
        moments.keep(moment, zero, stays[p])
    moments.keep(moments.end, zero, stays[p])
    return [p] + moments.form(zero)


class Chance:
    def __init__(self, seed):
        self.chance = random.Random(seed)

    def simple(self, tight):
        bounds = {}
        for clock in (1, 2, 3):
            low, high = sorted([self.chance.randint(0, 9), self.chance.randint(1, 9)])
            if self.chance.random() < tight:
                bounds[(clock, 0)] = high
            if self.chance.random() < tight:
                bounds[(0, clock)] = 1 - low if low < 9 else -8
        if self.chance.random() < 0.03:
            bounds[(self.chance.randrange(4),) * 2] = self.chance.randint(-1, 4)
        return zone(bounds)

    def machine(self):
        count = self.chance.randint(1, 4)
        tight = self.chance.choice((0.2, 0.3, 0.4))
        first = self.chance.choice((zone({(1, 0): 1, (2, 0): 1, (3, 0): 1}), self.simple(tight), self.simple(1)))
        stays = [self.simple(self.chance.choice((0, 0.1, tight))) for _ in range(count)]
        edges = [(self.chance.randrange(count), self.chance.randrange(count), 2 * self.chance.randrange(8),
                  self.simple(tight)) for _ in range(self.chance.randint(1, 8))]
        return first, edges, stays

    def row(self, edges, length):
        taken, p = [], 0
        while len(taken) < length:
            onward = [number for number, edge in enumerate(edges) if edge[0] == p]
            if not onward:
                break
            taken.append(self.chance.choice(onward))
            p = edges[taken[-1]][1]
        return taken


def made(first, edges, stays):
    return machine(len(stays), first, edges, dict(enumerate(stays)))


class Exact(unittest.TestCase):
    def test_can_row_and_places(self):
        chance = Chance(5)
        longest = 0
        for _ in range(70):
            first, edges, stays = chance.machine()
            walk = Walk(first, edges, stays)
            asked = [(p, ANYTHING) for p in range(len(stays))]
            asked += [(p, chance.simple(tight)) for p in range(len(stays)) for tight in (0.5, 0.5, 0.8, 1)]
            calls = made(first, edges, stays) + places()
            reached = sorted({p for p, _ in walk.rows})
            wanted = [[0, len(reached)] + reached]
            for p, z in asked:
                taken = walk.row_to(p, z)
                calls += can(p, z) + row(p, z)
                wanted += [[0, 0], [-3]] if taken is None else [[0, 1], [0, len(taken)] + list(taken)]
                longest = max(longest, len(taken or ()))
            self.assertEqual(split(answers(calls))[-len(wanted):], wanted, (first, edges, stays))
        self.assertGreater(longest, 3)

    def test_lead(self):
        chance = Chance(6)
        empty = 0
        for _ in range(60):
            first, edges, stays = chance.machine()
            for length in (0, 1, 2, 3, 4, 6):
                taken = chance.row(edges, length)
                found = last_answer(made(first, edges, stays) + lead(taken))
                self.assertEqual(found, [0] + led(first, edges, stays, taken), (first, edges, stays, taken))
                empty += found[2:] == EMPTY
        self.assertGreater(empty, 30)
        self.assertLess(empty, 250)

    def test_lead_by_many_edges(self):
        chance = Chance(7)
        longest = 0
        while longest < 6:
            first, edges, stays = chance.machine()
            taken = chance.row(edges, 32)
            wanted = led(first, edges, stays, taken[:8])
            if len(taken) == 32 and wanted[1:] != EMPTY:
                longest += 1
                wanted = led(first, edges, stays, taken)
                self.assertEqual(last_answer(made(first, edges, stays) + lead(taken)), [0] + wanted)

    def test_the_row_that_is_told_leads_there(self):
        chance = Chance(8)
        for _ in range(80):
            first, edges, stays = chance.machine()
            calls = made(first, edges, stays)
            for p in range(len(stays)):
                z = chance.simple(0.5)
                taken = last_answer(calls + row(p, z))
                if taken[0] == 0 and taken[1] <= 32:
                    there = last_answer(calls + lead(taken[2:]))
                    self.assertEqual(there[:2], [0, p])
                    self.assertEqual(last_answer([1, 16] + there[2:] + [16] + z) == [0] + EMPTY, False)


if __name__ == "__main__":
    unittest.main()
