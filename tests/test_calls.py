"""What each call answers: examples worked out by hand, and the edges that the document names."""

import unittest

from tests.helper import (
    ALL, ANYTHING, CLOCK_SETS, EMPTY, LARGEST, LEAST, NONE, TOP, all_calls_on, at_least, at_most, back, both, form,
    formed, free, hull, in_zone, later, less, more, set_to, sooner, told, wide, zone)

# 1 <= x1 < 3, 2 < x2 <= 5, x3 as it likes.
BOX = zone({(0, 1): at_least(1), (1, 0): less(3), (0, 2): more(2), (2, 0): at_most(5)})
BOX_FORM = formed({
    (0, 1): -1, (0, 2): -4, (1, 0): 6, (1, 2): 2, (1, 3): 6, (2, 0): 11, (2, 1): 9, (2, 3): 11})
# Sets that are empty, each for another reason.
EMPTIES = (
    EMPTY,
    zone({(0, 0): 0}),
    zone({(2, 2): 0}),
    zone({(3, 3): -5}),
    zone({(1, 0): less(0)}),
    zone({(3, 0): at_most(-1)}),
    zone({(0, 1): at_least(2), (1, 0): less(2)}),
    zone({(0, 1): more(2), (1, 0): at_most(2)}),
    zone({(1, 2): less(0), (2, 1): at_most(0)}),
    zone({(1, 2): at_most(-1), (2, 3): at_most(-1), (3, 1): at_most(1)}),
    zone({(1, 2): at_most(1), (2, 3): at_most(-1), (3, 1): less(0)}),
    [LEAST] * 16,
)


def point(x, y, u):
    """The zone of one reading of the three clocks."""
    reading = (0, x, y, u)
    return [at_most(reading[i] - reading[j]) for i in range(4) for j in range(4)]


class Form(unittest.TestCase):
    def test_ordinary(self):
        self.assertEqual(told(form(BOX)), BOX_FORM)
        self.assertEqual(told(form(BOX_FORM)), BOX_FORM)

    def test_bounds_come_through_several_clocks(self):
        z = zone({(1, 0): at_most(1), (2, 1): less(2), (3, 2): at_most(3)})
        self.assertEqual(told(form(z)), formed({
            (1, 0): 3, (1, 2): 3, (1, 3): 3, (2, 0): 6, (2, 1): 4, (2, 3): 6, (3, 0): 12, (3, 1): 10, (3, 2): 7}))
        z = zone({(0, 3): at_least(1), (3, 2): less(-1), (2, 1): at_most(-1)})
        self.assertEqual(told(form(z)), formed({
            (0, 3): -1, (0, 2): -4, (0, 1): -6, (3, 2): -2, (2, 1): -1, (3, 1): -4}))

    def test_bounds_that_are_none(self):
        self.assertEqual(told(form(ANYTHING)), ALL)
        self.assertEqual(told(form(ALL)), ALL)

    def test_largest_and_least_bounds(self):
        self.assertEqual(told(form(zone({(1, 0): LARGEST}))),
                         formed({(1, 0): LARGEST, (1, 2): LARGEST, (1, 3): LARGEST}))
        self.assertEqual(told(form(zone({(0, 1): LEAST}))), formed({(0, 1): LEAST}))
        self.assertEqual(told(form(zone({(0, 1): LARGEST}))), ALL)
        self.assertEqual(told(form(zone({(2, 2): LARGEST}))), ALL)

    def test_less_than_beside_at_most(self):
        self.assertEqual(told(form(zone({(0, 1): at_least(2), (1, 0): at_most(2)}))),
                         formed({(0, 1): -3, (1, 0): 5, (1, 2): 5, (1, 3): 5}))
        self.assertEqual(told(form(zone({(0, 1): more(1), (1, 0): less(2)}))),
                         formed({(0, 1): -2, (1, 0): 4, (1, 2): 4, (1, 3): 4}))
        self.assertEqual(told(form(zone({(0, 1): more(2), (1, 0): less(2)}))), EMPTY)

    def test_readings_from_0_on(self):
        self.assertEqual(told(form(zone({(1, 0): at_most(0)}))), formed({(1, 0): 1, (1, 2): 1, (1, 3): 1}))

    def test_the_empty_set(self):
        for z in EMPTIES:
            with self.subTest(z=z):
                self.assertEqual(told(form(z)), EMPTY)


class SetsAlone(unittest.TestCase):
    """Two zones told otherwise that are the same set have the same answers."""

    def same(self, z, w):
        one = all_calls_on(z)
        other = all_calls_on(w)
        for name in one:
            with self.subTest(name, z=z, w=w):
                self.assertEqual(told(one[name]), told(other[name]))
        for most in range(7):
            with self.subTest("wide", most=most, z=z, w=w):
                self.assertEqual(told(wide(most, z)), told(wide(most, w)))
        for clocks in CLOCK_SETS:
            with self.subTest("clocks", clocks=clocks, z=z, w=w):
                self.assertEqual(told(set_to(clocks, 2, z)), told(set_to(clocks, 2, w)))
                self.assertEqual(told(back(clocks, 2, z)), told(back(clocks, 2, w)))
                self.assertEqual(told(free(clocks, z)), told(free(clocks, w)))
        for other_set in (BOX, ALL, EMPTY):
            self.assertEqual(told(in_zone(z, other_set)), told(in_zone(w, other_set)))
            self.assertEqual(told(in_zone(other_set, z)), told(in_zone(other_set, w)))
            self.assertEqual(told(both(z, other_set)), told(both(w, other_set)))
            self.assertEqual(told(hull(other_set, z)), told(hull(other_set, w)))

    def test_a_set_and_its_form(self):
        self.same(BOX, BOX_FORM)
        self.same(ANYTHING, ALL)
        chain = zone({(1, 0): at_most(1), (2, 1): less(2), (3, 2): at_most(3)})
        self.same(chain, told(form(chain)))

    def test_bounds_that_bind_nothing(self):
        self.same(BOX, zone({
            (0, 0): 9, (1, 1): LARGEST, (0, 3): 100, (2, 1): 50, (1, 3): 8,
            (0, 1): at_least(1), (1, 0): less(3), (0, 2): more(2), (2, 0): at_most(5)}))

    def test_empty_sets(self):
        for z in EMPTIES:
            self.same(z, EMPTY)


class Both(unittest.TestCase):
    def test_ordinary(self):
        w = zone({(1, 0): at_most(3), (0, 1): more(1), (2, 1): at_most(1)})
        self.assertEqual(told(both(BOX, w)), formed({
            (0, 1): -2, (0, 2): -4, (1, 0): 6, (1, 2): 2, (1, 3): 6, (2, 0): 8, (2, 1): 3, (2, 3): 8}))

    def test_less_than_is_narrower_than_at_most(self):
        z = zone({(3, 0): less(4)})
        w = zone({(3, 0): at_most(4)})
        self.assertEqual(told(both(z, w)), told(form(z)))
        self.assertEqual(told(both(w, z)), told(form(z)))

    def test_nothing_in_both(self):
        self.assertEqual(told(both(zone({(3, 0): less(4)}), zone({(0, 3): at_least(4)}))), EMPTY)
        self.assertEqual(told(both(point(0, 0, 1), point(0, 0, 2))), EMPTY)

    def test_the_empty_set_and_all(self):
        for z in EMPTIES:
            self.assertEqual(told(both(z, BOX)), EMPTY)
            self.assertEqual(told(both(BOX, z)), EMPTY)
        self.assertEqual(told(both(BOX, ANYTHING)), BOX_FORM)


class Hull(unittest.TestCase):
    def test_ordinary(self):
        self.assertEqual(told(hull(point(1, 2, 0), point(3, 0, 0))), formed({
            (0, 1): -1, (1, 0): 7, (1, 2): 7, (1, 3): 7, (2, 0): 5, (2, 1): 3, (2, 3): 5, (3, 0): 1, (3, 1): -1,
            (3, 2): 1}))

    def test_less_than_beside_at_most(self):
        z = zone({(3, 0): less(4), (0, 3): more(2)})
        w = zone({(3, 0): at_most(4), (0, 3): at_least(3)})
        wanted = told(form(zone({(3, 0): at_most(4), (0, 3): more(2)})))
        self.assertEqual(told(hull(z, w)), wanted)
        self.assertEqual(told(hull(w, z)), wanted)

    def test_none_beside_a_bound(self):
        self.assertEqual(told(hull(BOX, zone({(0, 2): at_least(2)}))), formed({(0, 2): -3}))

    def test_the_empty_set(self):
        deep = zone({(0, 1): at_least(7), (1, 2): at_most(-3)})
        for z in EMPTIES:
            self.assertEqual(told(hull(z, deep)), told(form(deep)))
            self.assertEqual(told(hull(deep, z)), told(form(deep)))
            self.assertEqual(told(hull(z, z)), EMPTY)


class LaterAndSooner(unittest.TestCase):
    def test_later(self):
        self.assertEqual(told(later(BOX)), formed({
            (0, 1): -1, (0, 2): -4, (1, 2): 2, (1, 3): 6, (2, 1): 9, (2, 3): 11}))

    def test_later_of_one_reading(self):
        self.assertEqual(told(later(point(3, 1, 0))), [
            1, -5, -1, 1, NONE, 1, 5, 7, NONE, -3, 1, 3, NONE, -5, -1, 1])

    def test_sooner(self):
        self.assertEqual(told(sooner(BOX)), formed({
            (1, 0): 6, (1, 2): 2, (1, 3): 6, (2, 0): 11, (2, 1): 9, (2, 3): 11}))

    def test_sooner_of_one_reading_ends_at_0(self):
        self.assertEqual(told(sooner(point(3, 1, 2))), [
            1, -3, 1, -1, 7, 1, 5, 3, 3, -3, 1, -1, 5, -1, 3, 1])

    def test_of_all(self):
        self.assertEqual(told(later(ANYTHING)), ALL)
        self.assertEqual(told(sooner(ANYTHING)), ALL)

    def test_of_the_empty_set(self):
        for z in EMPTIES:
            self.assertEqual(told(later(z)), EMPTY)
            self.assertEqual(told(sooner(z)), EMPTY)


class SetBackFree(unittest.TestCase):
    def test_set_of_one_reading_for_each_set_of_clocks(self):
        for clocks in CLOCK_SETS:
            for at in (0, 1, 4, TOP):
                x, y, u = [at if clocks >> i & 1 else reading for i, reading in ((1, 3), (2, 5), (3, 2))]
                with self.subTest(clocks=clocks, at=at):
                    self.assertEqual(told(set_to(clocks, at, point(3, 5, 2))), point(x, y, u))

    def test_set_keeps_what_binds_the_others(self):
        z = zone({(1, 0): less(2), (2, 1): at_most(1), (3, 2): at_most(1)})
        self.assertEqual(told(set_to(2, 9, z)), formed({
            (0, 1): -17, (1, 0): 19, (1, 2): 19, (1, 3): 19, (2, 0): 6, (2, 1): -12, (2, 3): 6, (3, 0): 8,
            (3, 1): -10, (3, 2): 3}))

    def test_free_of_one_reading_for_each_set_of_clocks(self):
        for clocks in CLOCK_SETS:
            bounds = {}
            for i, reading in ((1, 3), (2, 5), (3, 2)):
                if not clocks >> i & 1:
                    bounds[i, 0] = at_most(reading)
                    bounds[0, i] = at_least(reading)
            with self.subTest(clocks=clocks):
                self.assertEqual(told(free(clocks, point(3, 5, 2))), told(form(zone(bounds))))
                self.assertEqual(told(free(clocks, EMPTY)), EMPTY)

    def test_free_keeps_what_binds_the_others(self):
        z = zone({(1, 0): less(2), (2, 1): at_most(1), (3, 2): at_most(1)})
        self.assertEqual(told(free(4, z)), formed({
            (1, 0): 4, (1, 2): 4, (1, 3): 4, (3, 0): 8, (3, 1): 5, (3, 2): 8}))

    def test_back_asks_whether_the_clocks_may_read_so(self):
        for clocks in CLOCK_SETS[1:]:
            with self.subTest(clocks=clocks):
                self.assertEqual(told(back(clocks, 7, point(7, 7, 7))), told(free(clocks, point(7, 7, 7))))
                self.assertEqual(told(back(clocks, 6, point(7, 7, 7))), EMPTY)
                self.assertEqual(told(back(clocks, 7, EMPTY)), EMPTY)

    def test_back_binds_the_others_by_it(self):
        z = zone({(2, 1): less(1), (1, 2): at_most(0)})
        self.assertEqual(told(back(2, 4, z)), formed({
            (0, 2): -7, (2, 0): 10, (2, 1): 10, (2, 3): 10}))

    def test_back_at_less_than(self):
        z = zone({(1, 0): less(4)})
        self.assertEqual(told(back(2, 4, z)), EMPTY)
        self.assertEqual(told(back(2, 3, z)), ALL)

    def test_no_clocks(self):
        for z in (BOX,) + EMPTIES:
            wanted = told(form(z))
            for call in (set_to(0, 0, z), set_to(0, TOP, z), back(0, 0, z), back(0, TOP, z), free(0, z)):
                self.assertEqual(told(call), wanted)

    def test_set_of_the_empty_set(self):
        for z in EMPTIES:
            for clocks in CLOCK_SETS:
                self.assertEqual(told(set_to(clocks, 1, z)), EMPTY)


class Wide(unittest.TestCase):
    def test_ordinary(self):
        self.assertEqual(told(wide(4, BOX)), formed({
            (0, 1): -1, (0, 2): -4, (1, 0): 6, (1, 2): 2, (1, 3): 6, (2, 0): 14, (2, 1): 9, (2, 3): 14}))
        self.assertEqual(told(wide(1, BOX)), formed({(0, 1): -1, (0, 2): -2, (1, 2): 2}))

    def test_just_at_most_and_just_above(self):
        for most in (1, 2, 5, TOP - 1):
            kept = zone({(1, 2): at_most(most)})
            self.assertEqual(told(wide(most, kept)), told(form(kept)))
            self.assertEqual(told(wide(most, zone({(1, 2): less(most + 1)}))), ALL)
            self.assertEqual(told(wide(most, zone({(0, 1): more(most)}))), formed({(0, 1): -2 * most}))
            self.assertEqual(told(wide(most, zone({(0, 1): at_least(most)}))), formed({(0, 1): 1 - 2 * most}))
            self.assertEqual(told(wide(most, zone({(0, 1): at_least(most + 1)}))), formed({(0, 1): -2 * most}))

    def test_by_0(self):
        self.assertEqual(told(wide(0, BOX)), formed({(0, 1): 0, (0, 2): 0}))
        self.assertEqual(told(wide(0, point(0, 0, 0))), point(0, 0, 0))
        self.assertEqual(told(wide(0, point(2, 0, 0))), formed({
            (0, 1): 0, (2, 0): 1, (2, 1): 0, (2, 3): 1, (3, 0): 1, (3, 1): 0, (3, 2): 1}))

    def test_widens_the_form_not_the_row(self):
        row = zone({(1, 0): at_most(9), (2, 0): at_most(1), (1, 2): at_most(1)})
        self.assertEqual(told(wide(2, row)), told(form(row)))

    def test_the_form_of_what_is_widened(self):
        z = zone({(1, 0): at_most(2), (2, 1): at_most(2)})
        self.assertEqual(told(wide(3, z)), formed({
            (1, 0): 5, (1, 2): 5, (1, 3): 5, (2, 0): 9, (2, 1): 5, (2, 3): 9}))

    def test_the_empty_set(self):
        for z in EMPTIES:
            for most in (0, 1, 2, TOP):
                self.assertEqual(told(wide(most, z)), EMPTY)


class In(unittest.TestCase):
    def test_ordinary(self):
        larger = zone({(1, 0): at_most(3), (2, 1): at_most(4)})
        self.assertEqual(told(in_zone(BOX, larger)), [1])
        self.assertEqual(told(in_zone(larger, BOX)), [0])
        self.assertEqual(told(in_zone(BOX, BOX_FORM)), [1])

    def test_bounds_that_only_the_form_shows(self):
        chain = zone({(1, 0): at_most(1), (2, 1): less(2)})
        self.assertEqual(told(in_zone(chain, zone({(2, 0): less(3)}))), [1])
        self.assertEqual(told(in_zone(chain, zone({(2, 0): at_most(2)}))), [0])

    def test_less_than_beside_at_most(self):
        z = zone({(1, 0): less(4)})
        w = zone({(1, 0): at_most(4)})
        self.assertEqual(told(in_zone(z, w)), [1])
        self.assertEqual(told(in_zone(w, z)), [0])

    def test_each_bound_alone_can_leave_it(self):
        for i in range(4):
            for j in range(4):
                if i != j:
                    with self.subTest(i=i, j=j):
                        self.assertEqual(told(in_zone(point(0, 0, 0), zone({(i, j): less(0)}))), [0])

    def test_the_empty_set(self):
        for z in EMPTIES:
            self.assertEqual(told(in_zone(z, BOX)), [1])
            self.assertEqual(told(in_zone(z, zone({(0, 1): LEAST, (1, 2): -9}))), [1])
            self.assertEqual(told(in_zone(BOX, z)), [0])
            self.assertEqual(told(in_zone(z, EMPTY)), [1])
            self.assertEqual(told(in_zone(EMPTY, z)), [1])


if __name__ == "__main__":
    unittest.main()
