"""When a call is refused: -1 for what is handed over, -2 for what would be told."""

import unittest

from tests.helper import (
    ALL, ANYTHING, CLOCK_SETS, EMPTY, LARGEST, LEAST, NONE, TOP, all_calls_on, answer, at_least, at_most, back, both,
    form, formed, free, hull, in_zone, later, less, more, set_to, sooner, told, wide, zone)

NO_BOUNDS = (LARGEST + 1, LEAST - 1, NONE - 1, NONE + 1, -NONE, 2147483647, -2147483648)
WRONG_CLOCKS = (1, 3, 15, 16, 18, 30, 1 << 16, (1 << 31) + 2, 4294967295)
TOO_LARGE = (TOP + 1, 1 << 31, 4294967295)
# Clock 2 reads at most (at least) one more than a bound can tell.
HIGH = zone({(1, 0): at_most(TOP), (2, 1): at_most(1)})
DEEP = zone({(0, 1): at_least(TOP), (1, 2): at_most(-1)})


class NoZone(unittest.TestCase):
    def assert_all_refused(self, row):
        for name, call in all_calls_on(row).items():
            with self.subTest(name, row=row):
                self.assertEqual(answer(call), [-1])

    def test_rows_of_other_lengths(self):
        for length in range(33):
            for number in (0, 1, NONE):
                if length != 16:
                    self.assert_all_refused([number] * length)

    def test_numbers_that_are_no_bound(self):
        for number in NO_BOUNDS:
            for k in range(16):
                row = list(ANYTHING)
                row[k] = number
                self.assert_all_refused(row)

    def test_also_where_the_set_would_be_empty(self):
        for number in NO_BOUNDS:
            self.assert_all_refused([0] * 15 + [number])

    def test_sixteen_bounds_are_a_zone_wherever_they_stand(self):
        for number in (LARGEST, LARGEST - 1, LEAST, LEAST + 1, NONE, 0, -1):
            for k in range(16):
                row = list(ANYTHING)
                row[k] = number
                for name, call in all_calls_on(row).items():
                    with self.subTest(name, row=row):
                        self.assertNotEqual(answer(call), [-1])
                self.assertEqual(answer(form(row))[0], 0)


class WrongWholes(unittest.TestCase):
    def test_clocks_with_other_bits(self):
        for clocks in WRONG_CLOCKS:
            with self.subTest(clocks):
                self.assertEqual(answer(set_to(clocks, 0, ALL)), [-1])
                self.assertEqual(answer(back(clocks, 0, ALL)), [-1])
                self.assertEqual(answer(free(clocks, ALL)), [-1])

    def test_every_number_up_to_64_but_the_eight_sets(self):
        for clocks in range(65):
            wanted = 0 if clocks in CLOCK_SETS else -1
            for call in (set_to(clocks, 0, ALL), back(clocks, 0, ALL), free(clocks, ALL)):
                with self.subTest(call=call[:2]):
                    self.assertEqual(answer(call)[0], wanted)

    def test_at_above_the_largest(self):
        for at in TOO_LARGE:
            for clocks in CLOCK_SETS:
                with self.subTest(at=at, clocks=clocks):
                    self.assertEqual(answer(set_to(clocks, at, ALL)), [-1])
                    self.assertEqual(answer(back(clocks, at, ALL)), [-1])
                    self.assertEqual(answer(set_to(clocks, at, EMPTY)), [-1])
                    self.assertEqual(answer(back(clocks, at, EMPTY)), [-1])

    def test_most_above_the_largest(self):
        for most in TOO_LARGE:
            with self.subTest(most):
                self.assertEqual(answer(wide(most, ALL)), [-1])
                self.assertEqual(answer(wide(most, EMPTY)), [-1])

    def test_the_largest_at(self):
        pinned = formed({(0, 1): -2097151, (1, 0): LARGEST, (1, 2): LARGEST, (1, 3): LARGEST})
        self.assertEqual(told(set_to(2, TOP, ANYTHING)), pinned)
        self.assertEqual(told(back(2, TOP, zone({(0, 1): at_least(TOP)}))), ALL)
        self.assertEqual(told(back(2, TOP, zone({(0, 1): more(TOP)}))), EMPTY)

    def test_the_largest_most(self):
        z = formed({(0, 1): LEAST, (1, 0): NONE, (2, 0): LARGEST, (2, 1): 0, (2, 3): LARGEST})
        self.assertEqual(told(wide(TOP, z)), told(form(z)))


class OutOfReach(unittest.TestCase):
    def test_above_the_largest_bound(self):
        just = zone({(1, 0): at_most(TOP), (2, 1): at_most(0)})
        self.assertEqual(told(form(just))[8], LARGEST)
        self.assertEqual(answer(form(HIGH)), [-2])
        by_less = zone({(1, 0): at_most(TOP), (2, 1): less(1)})
        self.assertEqual(answer(form(by_less)), [-2])
        within = zone({(1, 0): less(TOP), (2, 1): less(0)})
        self.assertEqual(told(form(within))[8], LARGEST - 1)

    def test_below_the_least_bound(self):
        just = zone({(0, 1): at_least(TOP), (1, 2): less(0)})
        self.assertEqual(told(form(just))[2], LEAST)
        self.assertEqual(answer(form(DEEP)), [-2])
        by_more = zone({(0, 1): more(TOP), (1, 2): at_most(-1)})
        self.assertEqual(answer(form(by_more)), [-2])

    def test_between_two_clocks(self):
        just = zone({(1, 2): at_most(TOP), (2, 3): at_most(0)})
        self.assertEqual(told(form(just))[7], LARGEST)
        beyond = zone({(1, 2): at_most(TOP), (2, 3): less(1)})
        self.assertEqual(answer(form(beyond)), [-2])
        below = zone({(1, 2): at_most(-TOP), (2, 3): at_most(-1)})
        self.assertEqual(answer(form(below)), [-2])

    def test_as_far_as_it_goes(self):
        far = zone({(1, 0): LARGEST, (2, 1): LARGEST, (3, 2): LARGEST})
        self.assertEqual(answer(form(far)), [-2])
        deep = zone({(0, 1): LEAST, (1, 2): LEAST, (2, 3): LEAST})
        self.assertEqual(answer(form(deep)), [-2])

    def test_none_is_not_beyond(self):
        self.assertEqual(told(form(ANYTHING)), ALL)

    def test_the_empty_set_is_never_beyond(self):
        nothing = zone({(1, 0): LEAST, (2, 1): LARGEST, (3, 2): LARGEST})
        for call in (form(nothing), both(nothing, HIGH), both(HIGH, zone({(1, 2): -3})), hull(nothing, nothing),
                     later(nothing), sooner(nothing), set_to(2, TOP, nothing), back(2, TOP, nothing), free(2, nothing),
                     wide(TOP, nothing)):
            with self.subTest(call=call[0]):
                self.assertEqual(told(call), EMPTY)

    def test_each_call_whose_answer_is_beyond(self):
        for call in (both(HIGH, ALL), both(ALL, DEEP), hull(HIGH, EMPTY), hull(EMPTY, HIGH), hull(DEEP, DEEP),
                     later(DEEP), sooner(HIGH), set_to(8, 0, HIGH), set_to(2, 0, DEEP), set_to(0, 0, HIGH),
                     back(8, 0, HIGH), back(0, 0, DEEP), free(8, HIGH), free(2, DEEP), free(0, HIGH), wide(TOP, HIGH),
                     wide(TOP, DEEP)):
            with self.subTest(call=call):
                self.assertEqual(answer(call), [-2])

    def test_each_call_whose_answer_is_back_in_reach(self):
        self.assertEqual(told(both(HIGH, zone({(2, 0): 7, (1, 0): 9}))),
                         formed({(1, 0): 9, (1, 2): 9, (1, 3): 9, (2, 0): 7, (2, 1): 3, (2, 3): 7}))
        self.assertEqual(told(hull(HIGH, ALL)), ALL)
        self.assertEqual(told(hull(ALL, DEEP)), ALL)
        high_but_3 = zone({(1, 0): at_most(TOP), (2, 1): at_most(1), (0, 3): at_least(1)})
        self.assertEqual(answer(form(high_but_3)), [-2])
        self.assertEqual(told(later(high_but_3)), formed(
            {(0, 3): -1, (1, 2): LARGEST, (1, 3): LARGEST - 2, (2, 1): 3, (2, 3): LARGEST}))
        self.assertEqual(told(sooner(DEEP)), formed({(0, 2): -1, (1, 2): -1}))
        self.assertEqual(told(set_to(4, 0, HIGH))[8], 1)
        self.assertEqual(told(free(4, HIGH)), formed({(1, 0): LARGEST, (1, 2): LARGEST, (1, 3): LARGEST}))
        self.assertEqual(told(back(4, 5, HIGH)),
                         formed({(0, 1): -7, (1, 0): LARGEST, (1, 2): LARGEST, (1, 3): LARGEST}))
        self.assertEqual(told(wide(TOP - 1, HIGH)), formed({(2, 1): 3}))
        self.assertEqual(told(wide(TOP - 1, DEEP)), formed({(0, 1): -2097150, (0, 2): LEAST, (1, 2): -1}))

    def test_back_reaches_beyond(self):
        z = zone({(2, 1): at_most(1)})
        self.assertEqual(told(back(2, TOP - 1, z)), formed({(2, 0): LARGEST, (2, 1): LARGEST, (2, 3): LARGEST}))
        self.assertEqual(answer(back(2, TOP, z)), [-2])
        w = zone({(1, 2): at_most(-1)})
        self.assertEqual(told(back(2, TOP - 1, w)), formed({(0, 2): -2097151}))
        self.assertEqual(answer(back(2, TOP, w)), [-2])

    def test_in_is_never_beyond(self):
        higher = zone({(1, 0): at_most(TOP), (2, 1): at_most(2)})
        self.assertEqual(answer(in_zone(HIGH, higher)), [0, 1])
        self.assertEqual(answer(in_zone(higher, HIGH)), [0, 0])
        self.assertEqual(answer(in_zone(DEEP, zone({(0, 2): more(TOP)}))), [0, 1])
        self.assertEqual(answer(in_zone(zone({(0, 2): more(TOP)}), DEEP)), [0, 0])


class MinusOneFirst(unittest.TestCase):
    def test_a_row_that_is_no_zone_beside_one_beyond(self):
        for bad in ([], HIGH + [1], [NONE - 1] * 16):
            for call in (both(HIGH, bad), both(bad, HIGH), hull(HIGH, bad), hull(bad, HIGH), in_zone(bad, HIGH),
                         in_zone(HIGH, bad)):
                with self.subTest(call=call):
                    self.assertEqual(answer(call), [-1])

    def test_wrong_wholes_beside_a_zone_beyond(self):
        for z in (HIGH, DEEP):
            for call in (set_to(1, 0, z), set_to(0, TOP + 1, z), back(1, 0, z), back(0, TOP + 1, z), free(1, z),
                         wide(TOP + 1, z)):
                with self.subTest(call=call):
                    self.assertEqual(answer(call), [-1])

    def test_several_at_once(self):
        self.assertEqual(answer(set_to(1, TOP + 1, [])), [-1])
        self.assertEqual(answer(back(1, TOP + 1, [5] * 32)), [-1])
        self.assertEqual(answer(free(4294967295, [])), [-1])
        self.assertEqual(answer(wide(4294967295, [])), [-1])


if __name__ == "__main__":
    unittest.main()
