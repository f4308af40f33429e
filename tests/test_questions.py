"""has and empty: whether readings are in a zone, and whether any are."""

import unittest

from tests.helper import (
    ALL, ANYTHING, EMPTY, LARGEST, LEAST, NONE, TOP, answer, at_least, at_most, empty, formed, has, less, more, zone)

LARGEST_READING = 9007199254740991
HIGH = zone({(1, 0): at_most(TOP), (2, 1): at_most(1)})


class Has(unittest.TestCase):
    def assert_has(self, wanted, x, y, u, whole, z):
        self.assertEqual(answer(has(x, y, u, whole, z)), [0, wanted], (x, y, u, whole, z))

    def test_all_readings_are_in_no_bounds(self):
        for z in (ANYTHING, ALL):
            self.assert_has(1, 0, 0, 0, 1, z)
            self.assert_has(1, 7, 0, 3, 2, z)
            self.assert_has(1, LARGEST_READING, 0, LARGEST_READING, 1, z)
            self.assert_has(1, 1, LARGEST_READING, 0, LARGEST_READING, z)

    def test_none_are_in_the_empty_set(self):
        for z in (EMPTY, zone({(0, 0): 0}), zone({(2, 2): 0}), zone({(3, 3): -1}), zone({(1, 0): less(0)})):
            for readings in ((0, 0, 0), (1, 1, 1), (5, 0, 3)):
                self.assert_has(0, *readings, 1, z)

    def test_each_clock_at_its_place(self):
        for clock in (1, 2, 3):
            readings = [0, 0, 0]
            readings[clock - 1] = 5
            others = [2, 2, 2]
            others[clock - 1] = 0
            for z in (zone({(0, clock): at_least(5)}), zone({(0, clock): more(4)})):
                self.assert_has(1, *readings, 1, z)
                self.assert_has(0, *others, 1, z)

    def test_at_most_and_less(self):
        self.assert_has(1, 6, 0, 0, 2, zone({(1, 0): at_most(3)}))
        self.assert_has(0, 6, 0, 0, 2, zone({(1, 0): less(3)}))
        self.assert_has(1, 5, 0, 0, 2, zone({(1, 0): less(3)}))
        self.assert_has(0, 7, 0, 0, 2, zone({(1, 0): at_most(3)}))
        self.assert_has(1, 6, 0, 0, 2, zone({(0, 1): at_least(3)}))
        self.assert_has(0, 6, 0, 0, 2, zone({(0, 1): more(3)}))
        self.assert_has(1, 7, 0, 0, 2, zone({(0, 1): more(3)}))
        self.assert_has(0, 5, 0, 0, 2, zone({(0, 1): at_least(3)}))

    def test_differences_of_clocks(self):
        z = zone({(1, 2): at_most(-1), (3, 1): less(2)})
        self.assert_has(1, 0, 3, 5, 3, z)
        self.assert_has(0, 1, 3, 5, 3, z)
        self.assert_has(0, 0, 3, 6, 3, z)
        self.assert_has(1, 1, 4, 6, 3, z)

    def test_the_diagonal_keeps_what_is_at_least_0(self):
        for k in (0, 1, 2, 3):
            for bound in (1, 2, 9, LARGEST, NONE):
                self.assert_has(1, 1, 2, 3, 4, zone({(k, k): bound}))
            for bound in (0, -1, -2, LEAST):
                self.assert_has(0, 1, 2, 3, 4, zone({(k, k): bound}))

    def test_thirds(self):
        third = zone({(1, 0): at_most(1), (0, 1): at_least(1)})
        self.assert_has(1, 3, 0, 0, 3, third)
        self.assert_has(0, 3, 0, 0, 4, third)
        self.assert_has(0, 4, 0, 0, 3, third)

    def test_finer_than_a_float(self):
        near = LARGEST_READING - 1
        self.assert_has(0, LARGEST_READING, 0, 0, near, zone({(1, 0): at_most(1)}))
        self.assert_has(1, LARGEST_READING, 0, 0, near, zone({(0, 1): more(1)}))
        self.assert_has(1, near, 0, 0, LARGEST_READING, zone({(1, 0): less(1)}))
        self.assert_has(0, near, 0, 0, LARGEST_READING, zone({(0, 1): at_least(1)}))
        self.assert_has(1, LARGEST_READING, near, 0, LARGEST_READING, zone({(2, 1): less(0)}))
        self.assert_has(0, LARGEST_READING, near, 0, LARGEST_READING, zone({(1, 2): at_most(0)}))
        whole = LARGEST_READING // TOP
        self.assert_has(1, whole * TOP, 0, 0, whole, zone({(1, 0): LARGEST}))
        self.assert_has(0, whole * TOP + 1, 0, 0, whole, zone({(1, 0): LARGEST}))

    def test_zones_that_are_told_beyond(self):
        self.assert_has(1, TOP, TOP + 1, 0, 1, HIGH)
        self.assert_has(0, TOP, TOP + 2, 0, 1, HIGH)

    def test_it_hangs_on_the_set_alone(self):
        told_wide = zone({(1, 0): at_most(2), (2, 1): at_most(1)})
        told_in_form = formed({(1, 0): 5, (1, 2): 5, (1, 3): 5, (2, 0): 7, (2, 1): 3, (2, 3): 7})
        for x in range(8):
            for y in range(10):
                self.assertEqual(answer(has(x, y, 1, 2, told_wide)), answer(has(x, y, 1, 2, told_in_form)))

    def test_parts_of_0_are_refused(self):
        for readings in ((0, 0, 0), (1, 2, 3), (LARGEST_READING, 0, 0)):
            for z in (ANYTHING, EMPTY, HIGH, [], [5] * 32):
                self.assertEqual(answer(has(*readings, 0, z)), [-1])
        self.assertEqual(answer(has(0, 0, 0, 1, ANYTHING)), [0, 1])


class Empty(unittest.TestCase):
    def test_sets_with_readings(self):
        for z in (ANYTHING, ALL, HIGH, zone({(1, 0): at_most(0)}), zone({(1, 0): less(1), (0, 1): more(0)}),
                  zone({(1, 0): less(1), (0, 1): more(0), (2, 1): less(0), (0, 2): more(0)}),
                  zone({(1, 2): at_most(3), (2, 1): at_most(-3)}), zone({(0, 3): LEAST}), zone({(0, 0): LARGEST})):
            self.assertEqual(answer(empty(z)), [0, 0], z)

    def test_sets_with_none(self):
        for z in (EMPTY, zone({(1, 0): less(0)}), zone({(2, 0): at_most(-1)}),
                  zone({(3, 0): less(1), (0, 3): at_least(1)}), zone({(3, 0): at_most(1), (0, 3): more(1)}),
                  zone({(0, 0): 0}), zone({(3, 3): LEAST}), zone({(1, 2): less(0), (2, 3): at_most(0), (3, 1): at_most(0)}),
                  zone({(1, 2): less(1), (2, 1): at_most(-1)}),
                  zone({(1, 0): at_most(3), (1, 2): at_most(1), (0, 1): at_least(2), (2, 0): less(1)})):
            self.assertEqual(answer(empty(z)), [0, 1], z)

    def test_the_empty_set_told_beyond(self):
        deep = zone({(0, 1): LEAST, (1, 2): LEAST, (2, 3): LEAST, (3, 0): LARGEST})
        self.assertEqual(answer(empty(deep)), [0, 1])
        self.assertEqual(answer(empty(zone({(0, 1): LEAST, (1, 2): LEAST, (2, 3): LEAST}))), [0, 0])


if __name__ == "__main__":
    unittest.main()
