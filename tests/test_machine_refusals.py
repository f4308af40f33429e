"""When a call on the machine is refused, and that nothing is changed by it."""

import unittest

from clockzones.machine import answers
from tests.helper import (
    ALL, ANYTHING, EMPTY, LARGEST, LEAST, NONE, at_least, at_most, can, edge, form, free, has, init, last_answer, lead,
    less, machine, place, places, row, set_to, simple_calls_on, split, wide, zone)

NO_BOUNDS = (LARGEST + 1, LEAST - 1, NONE - 1, NONE + 1, -NONE, 2147483647, -2147483648)
WRONG_CLOCKS = (1, 3, 15, 16, 18, 30, 1 << 16, (1 << 31) + 2, 4294967295)
FAR_OFF = (1 << 16, (1 << 31) + 1, 4294967295)
APART = [(i, j) for i in (1, 2, 3) for j in (1, 2, 3) if i != j]
NOT_APART = [(i, j) for i in range(4) for j in range(4) if (i, j) not in APART]
ORIGIN = zone({(1, 0): at_most(0), (2, 0): at_most(0), (3, 0): at_most(0)})
NOTHING = zone({(1, 0): less(0)})
# Two places of three are reached.
SMALL = machine(3, ORIGIN, [(0, 1, 2, zone({(0, 1): at_least(2)})), (1, 0, 4, ANYTHING), (2, 1, 0, ANYTHING)],
                {0: zone({(1, 0): at_most(3)}), 1: zone({(1, 0): at_most(1)})})
FULL = machine(2, ORIGIN, [(0, 1, 2, zone({(0, 1): at_least(k % 4)})) for k in range(7)] + [(1, 0, 0, ANYTHING)],
               {0: zone({(1, 0): at_most(3)})})
# What a machine is shows in how it answers these.
QUESTIONS = (places() + lead([]) + lead([0]) + lead([0, 1]) + lead([0, 7]) + can(0, zone({(0, 1): at_least(3)}))
             + row(1, zone({(1, 0): at_most(0), (0, 2): at_least(3)})) + row(2, ANYTHING) + row(3, ANYTHING)
             + edge(0, 0, 0, ANYTHING))


class NotSimple(unittest.TestCase):
    def assert_answers(self, refused, z):
        for name, call in simple_calls_on(z).items():
            with self.subTest(name, z=z):
                self.assertEqual(last_answer(call) == [-1], refused)

    def test_rows_that_are_no_zone(self):
        for length in range(33):
            if length != 16:
                for number in (0, 1, NONE):
                    self.assert_answers(True, [number] * length)
        for number in NO_BOUNDS:
            for k in range(16):
                self.assert_answers(True, [number if k == at else NONE for at in range(16)])

    def test_bounds_from_4_below_0_to_4(self):
        for cell in NOT_APART:
            for bound in range(-8, 10):
                self.assert_answers(False, zone({cell: bound}))
            for bound in (-9, -10, 10, 11, LEAST, LARGEST):
                self.assert_answers(True, zone({cell: bound}))

    def test_bounds_of_two_clocks_that_are_apart(self):
        for cell in APART:
            for bound in (1, 0, 9, -8, 10, LEAST, LARGEST):
                self.assert_answers(True, zone({cell: bound}))

    def test_a_row_is_taken_as_it_is_told(self):
        self.assert_answers(False, zone({(1, 0): at_most(2)}))
        for z in (ALL, zone({(0, 0): 1, (1, 1): 1})):
            self.assert_answers(False, z)
        told_in_form = split(answers(form(zone({(1, 0): at_most(2)}))))[0][1:]
        self.assert_answers(True, told_in_form)
        self.assert_answers(True, EMPTY)
        self.assert_answers(False, NOTHING)


class WrongWholes(unittest.TestCase):
    def test_init_takes_1_to_4_places(self):
        for count in (0, 5, 6) + FAR_OFF:
            self.assertEqual(last_answer(init(count, ANYTHING)), [-1])
            self.assertEqual(last_answer(init(count, [])), [-1])
        for count in (1, 2, 3, 4):
            self.assertEqual(last_answer(init(count, ANYTHING)), [0, 0])

    def test_places_that_are_not_there(self):
        for count in (1, 2, 3, 4):
            for p in (count, count + 1, 4, 5) + FAR_OFF:
                for call in (place(p, ANYTHING), can(p, ANYTHING), row(p, ANYTHING), edge(p, 0, 0, ANYTHING),
                             edge(0, p, 0, ANYTHING), edge(p, p, 0, ANYTHING)):
                    with self.subTest(count=count, call=call[:4]):
                        self.assertEqual(last_answer(init(count, ANYTHING) + call), [-1])
            last = count - 1
            for call in (place(last, ANYTHING), can(last, ANYTHING), edge(last, last, 0, ANYTHING)):
                self.assertEqual(last_answer(init(count, ANYTHING) + call)[0], 0)

    def test_clocks_with_other_bits(self):
        for clocks in WRONG_CLOCKS:
            self.assertEqual(last_answer(edge(0, 0, clocks, ANYTHING)), [-1])
        for clocks in range(65):
            wanted = [0, 0] if clocks in (0, 2, 4, 6, 8, 10, 12, 14) else [-1]
            self.assertEqual(last_answer(edge(0, 0, clocks, ANYTHING)), wanted)

    def test_a_ninth_edge(self):
        self.assertEqual(last_answer(FULL + edge(0, 0, 0, ANYTHING)), [-1])
        self.assertEqual(last_answer(FULL + edge(0, 0, 0, ANYTHING) * 3), [-1])
        self.assertEqual(last_answer(FULL + init(1, ANYTHING) + edge(0, 0, 0, ANYTHING)), [0, 0])


class NoSuchRun(unittest.TestCase):
    def test_row_to_what_is_not_reached(self):
        self.assertEqual(last_answer(SMALL + row(2, ANYTHING)), [-3])
        self.assertEqual(last_answer(SMALL + row(0, NOTHING)), [-3])
        self.assertEqual(last_answer(SMALL + row(1, zone({(0, 1): at_least(2)}))), [-3])
        self.assertEqual(last_answer(init(1, NOTHING) + row(0, ANYTHING)), [-3])

    def test_lead_by_an_edge_that_is_not_there(self):
        for number in (3, 4, 7, 8) + FAR_OFF:
            self.assertEqual(last_answer(SMALL + lead([number])), [-3])
            self.assertEqual(last_answer(SMALL + lead([0, 1, number])), [-3])
            self.assertEqual(last_answer(SMALL + lead([number, 0])), [-3])
        self.assertEqual(last_answer(lead([0])), [-3])

    def test_lead_by_edges_that_do_not_join(self):
        for edges in ([1], [2], [0, 0], [0, 2], [0, 1, 1], [0, 1, 0, 0], [2, 1]):
            self.assertEqual(last_answer(SMALL + lead(edges)), [-3], edges)
        for edges in ([], [0], [0, 1], [0, 1, 0, 1, 0]):
            self.assertEqual(last_answer(SMALL + lead(edges))[:2], [0, len(edges) % 2], edges)

    def test_lead_by_wrong_edges_where_nothing_is_reached(self):
        calls = machine(2, NOTHING, [(0, 1, 0, ANYTHING)])
        self.assertEqual(last_answer(calls + lead([1])), [-3])
        self.assertEqual(last_answer(calls + lead([0, 0])), [-3])
        self.assertEqual(last_answer(calls + lead([0])), [0, 1] + EMPTY)

    def test_the_longest_lead(self):
        self.assertEqual(last_answer(SMALL + lead([0, 1] * 16))[:2], [0, 0])
        self.assertEqual(last_answer(SMALL + lead([0, 1] * 15 + [0, 0])), [-3])


class MinusOneFirst(unittest.TestCase):
    def test_row_that_is_wrong_and_reaches_nothing(self):
        calls = init(2, NOTHING)
        for call in (row(2, ANYTHING), row(4294967295, ANYTHING), row(0, []), row(1, [1] * 32), row(1, EMPTY),
                     row(0, zone({(1, 0): at_most(5)})), row(5, zone({(1, 2): 1}))):
            self.assertEqual(last_answer(calls + call), [-1])

    def test_lead_that_is_too_long_and_joins_nothing(self):
        for length in (33, 34, 63, 64):
            for number in (0, 1, 2, 8, 4294967295):
                self.assertEqual(last_answer(SMALL + lead([number] * length)), [-1])
            self.assertEqual(last_answer(SMALL + lead(([0, 1] * 32)[:length])), [-1])

    def test_several_at_once(self):
        for call in (init(0, []), init(9, [1]), place(9, []), edge(9, 9, 1, []), can(9, []), row(9, EMPTY)):
            self.assertEqual(last_answer(FULL + call), [-1])


class NothingIsChanged(unittest.TestCase):
    def refused(self):
        wrong_zones = ([], [0] * 15, [1] * 17, [NONE] * 32, [NONE - 1] * 16, EMPTY, zone({(1, 0): 10}),
                       zone({(0, 2): -9}), zone({(1, 2): 9}), zone({(3, 3): 12}))
        calls = [call for z in wrong_zones for call in simple_calls_on(z).values()]
        calls += [init(count, ORIGIN) for count in (0, 5, 4294967295)]
        calls += [place(p, NOTHING) for p in (3, 4, 4294967295)]
        calls += [edge(3, 0, 0, ANYTHING), edge(0, 3, 0, ANYTHING), edge(1 << 31, 1 << 31, 0, ANYTHING)]
        calls += [edge(0, 2, clocks, ANYTHING) for clocks in WRONG_CLOCKS]
        calls += [row(2, NOTHING), row(0, NOTHING), can(7, ANYTHING), row(7, ANYTHING)]
        calls += [lead([9]), lead([0, 0]), lead([0] * 33), lead([1])]
        calls += [form([]), set_to(1, 0, ALL), free(16, ALL), wide(4294967295, ALL), has(0, 0, 0, 0, ALL)]
        calls += [form(zone({(1, 0): LARGEST, (2, 1): LARGEST}))]
        return calls

    def test_each_refused_call_leaves_the_machine_as_it_was(self):
        for made in ([], SMALL, FULL):
            wanted = answers(made + QUESTIONS) if made else answers(QUESTIONS)
            before = len(answers(made)) if made else 0
            for call in self.refused():
                numbers = split(answers(made + call))[-1]
                if len(numbers) == 1:
                    with self.subTest(call=call):
                        self.assertEqual(answers(made + call + QUESTIONS)[before + 2:], wanted[before:])

    def test_they_are_refused(self):
        for call in self.refused():
            self.assertLess(last_answer(SMALL + call)[0], 0, call)

    def test_a_ninth_edge_leaves_the_eight_as_they_were(self):
        wanted = answers(FULL + QUESTIONS)
        before = len(answers(FULL))
        self.assertEqual(answers(FULL + edge(0, 0, 0, ANYTHING) + QUESTIONS)[before + 2:], wanted[before:])

    def test_questions_leave_the_machine_as_it_was(self):
        asked = QUESTIONS[:-len(edge(0, 0, 0, ANYTHING))]
        for made in (SMALL, FULL):
            before = len(answers(made))
            once = answers(made + asked)[before:]
            self.assertEqual(answers(made + asked * 3)[before:], once * 3)

    def test_refused_calls_one_behind_another(self):
        calls = sum(self.refused(), [])
        found = split(answers(SMALL + calls + QUESTIONS))
        wanted = split(answers(SMALL + QUESTIONS))
        count = len(split(answers(QUESTIONS)))
        self.assertEqual(found[-count:], wanted[-count:])


if __name__ == "__main__":
    unittest.main()
