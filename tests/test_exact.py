"""Each answer against the readings themselves, fractions among them.

Bounds with c from -1 to 1 can't tell apart readings whose whole parts, whose
fractions' order and which of whose fractions are 0 are the same. With three
clocks the quarters have one reading of each such kind, so a set is known by its
quarters, and its least bounds are read off them: no difference of the sets
here is bounded by more than FAR, and one that isn't bounded goes beyond FAR
below EDGE. Readings are counted in eighths, so that the moments between two
quarters, through which time goes, are there too.
"""

import itertools
import random
import unittest

from tests.helper import (
    CLOCK_SETS, EMPTY, NONE, back, both, form, free, hull, in_zone, later, set_to, sooner, told, wide, zone)

ONE = 8
FAR = 3
EDGE = 7
GRID = [(0,) + point for point in itertools.product(range(0, EDGE * ONE + 1, 2), repeat=3)]
PAIRS = [(i, j) for i in range(4) for j in range(4)]


def limits_of(row):
    """The finite bounds as i, j and what reading i less reading j, in eighths, is less than."""
    return [(i, j, row[4 * i + j] // 2 * ONE + row[4 * i + j] % 2) for i, j in PAIRS if row[4 * i + j] != NONE]


def keeps(limits, point):
    for i, j, limit in limits:
        if point[i] - point[j] >= limit:
            return False
    return True


def points_of(row):
    points = GRID
    for i, j, limit in limits_of(row):
        points = [point for point in points if point[i] - point[j] < limit]
    return points


def least_bound(points, i, j):
    largest = max([point[i] - point[j] for point in points])
    if largest > FAR * ONE:
        return NONE
    if largest % ONE == 0:
        return 2 * (largest // ONE) + 1
    return 2 * (largest // ONE + 1)


def form_of(points):
    if not points:
        return EMPTY
    return [least_bound(points, i, j) for i, j in PAIRS]


def moved(point, d):
    return (0, point[1] + d, point[2] + d, point[3] + d)


def with_clocks(point, clocks, at):
    return tuple([at * ONE if i and clocks >> i & 1 else point[i] for i in range(4)])


def random_row(source):
    """Some bounds, few enough that many sets are not empty."""
    row = zone({})
    for k in source.sample(range(16), source.randint(0, 7)):
        i, j = k // 4, k % 4
        if i == j:
            row[k] = source.choice((0, 1, 1, 2, 3))
        elif j == 0:
            row[k] = source.choice((1, 2, 3, 3))
        else:
            row[k] = source.randint(-2, 3)
    return row


class Exact(unittest.TestCase):
    def rows(self, seed, count):
        source = random.Random(seed)
        return [random_row(source) for _ in range(count)]

    def test_the_rows_are_of_many_kinds(self):
        forms = [form_of(points_of(row)) for row in self.rows(1, 60)]
        self.assertTrue(10 < forms.count(EMPTY) < 40)
        self.assertTrue(any(bound % 2 == 0 and bound not in (0, NONE) for row in forms for bound in row))

    def test_form(self):
        for row in self.rows(1, 60):
            with self.subTest(row=row):
                self.assertEqual(told(form(row)), form_of(points_of(row)))

    def test_both_and_hull(self):
        for z, w in zip(self.rows(2, 40), self.rows(3, 40)):
            of_z, of_w = points_of(z), points_of(w)
            with self.subTest(z=z, w=w):
                self.assertEqual(told(both(z, w)), form_of([point for point in of_z if keeps(limits_of(w), point)]))
                self.assertEqual(told(hull(z, w)), form_of(of_z + of_w))

    def test_later(self):
        for z in self.rows(4, 25):
            limits = limits_of(z)
            points = [point for point in GRID
                      if any(keeps(limits, moved(point, -d)) for d in range(min(point[1:]) + 1))]
            with self.subTest(z=z):
                self.assertEqual(told(later(z)), form_of(points))

    def test_sooner(self):
        # What z asks at the least is 1, so a wait of more than a bit above 1 is never needed.
        for z in self.rows(5, 25):
            limits = limits_of(z)
            points = [point for point in GRID if any(keeps(limits, moved(point, d)) for d in range(ONE + 3))]
            with self.subTest(z=z):
                self.assertEqual(told(sooner(z)), form_of(points))

    def test_set(self):
        for k, z in enumerate(self.rows(6, 48)):
            clocks, at = CLOCK_SETS[k % 8], k // 8 % 2
            points = [with_clocks(point, clocks, at) for point in points_of(z)]
            with self.subTest(z=z, clocks=clocks, at=at):
                self.assertEqual(told(set_to(clocks, at, z)), form_of(points))

    def test_back(self):
        for k, z in enumerate(self.rows(7, 48)):
            clocks, at = CLOCK_SETS[k % 8], k // 8 % 2
            limits = limits_of(z)
            points = [point for point in GRID if keeps(limits, with_clocks(point, clocks, at))]
            with self.subTest(z=z, clocks=clocks, at=at):
                self.assertEqual(told(back(clocks, at, z)), form_of(points))

    def test_free(self):
        for k, z in enumerate(self.rows(8, 48)):
            clocks = CLOCK_SETS[k % 8]
            rest = [with_clocks(point, clocks, 0) for point in points_of(z)]
            choices = [(0, 2 * EDGE * ONE) if i and clocks >> i & 1 else (0,) for i in range(4)]
            points = [tuple(map(sum, zip(point, more))) for point in sorted(set(rest))
                      for more in itertools.product(*choices)]
            with self.subTest(z=z, clocks=clocks):
                self.assertEqual(told(free(clocks, z)), form_of(points))

    def test_wide(self):
        for k, z in enumerate(self.rows(9, 40)):
            most = k % 2
            row = list(form_of(points_of(z)))
            for i, j in PAIRS:
                bound = row[4 * i + j]
                if i != j and row[0] == 1:
                    row[4 * i + j] = NONE if bound > 2 * most + 1 else max(bound, -2 * most)
            with self.subTest(z=z, most=most):
                self.assertEqual(told(wide(most, z)), form_of(points_of(row)))

    def test_in(self):
        pairs = list(zip(self.rows(10, 60), self.rows(11, 60)))
        pairs += [(told(both(z, w)), w) for z, w in pairs]
        for z, w in pairs:
            with self.subTest(z=z, w=w):
                wanted = 1 if all(keeps(limits_of(w), point) for point in points_of(z)) else 0
                self.assertEqual(told(in_zone(z, w)), [wanted])


if __name__ == "__main__":
    unittest.main()
