"""How a list of calls is read, and how it is answered."""

import unittest

from clockzones.machine import answers
from tests.helper import (
    ALL, ANYTHING, EMPTY, NONE, all_calls_on, at_least, at_most, both, can, edge, form, formed, free, in_zone, init,
    later, lead, less, machine, place, places, row, set_to, simple_calls_on, split, wide, zone)

FAR = zone({(1, 0): at_most(1048576), (2, 1): at_most(1)})
ORIGIN = zone({(1, 0): at_most(0), (2, 0): at_most(0), (3, 0): at_most(0)})
LATE = zone({(0, 1): at_least(2)})
SOON = zone({(1, 0): less(3)})
# A machine, and all that can be asked of it.
TWO_PLACES = machine(2, ORIGIN, [(0, 1, 2, LATE), (1, 0, 14, ANYTHING)], {0: SOON})
ASKED = (places() + can(1, LATE) + row(0, ORIGIN) + row(1, SOON) + row(1, zone({(2, 0): less(2)})) + lead([0, 1])
         + lead([1]) + lead([0] * 33) + can(2, ANYTHING))


class Watched(list):
    """A list that may be read alone."""

    def refuse(self, *_):
        raise AssertionError("what is handed in is changed")

    append = extend = insert = pop = remove = clear = sort = reverse = refuse
    __setitem__ = __delitem__ = __iadd__ = __imul__ = refuse


class OneCall(unittest.TestCase):
    def test_a_form_is_told_as_0_and_sixteen(self):
        z = zone({(1, 0): less(3)})
        self.assertEqual(answers([0, 16] + z), [17, 0] + formed({(1, 0): 6, (1, 2): 6, (1, 3): 6}))

    def test_in_is_told_as_0_and_one(self):
        self.assertEqual(answers([9, 16] + ALL + [16] + ALL), [2, 0, 1])
        self.assertEqual(answers([9, 16] + ALL + [16] + EMPTY), [2, 0, 0])

    def test_has_and_empty_are_told_as_0_and_one(self):
        self.assertEqual(answers([10, 5, 0, 0, 2, 16] + SOON), [2, 0, 1])
        self.assertEqual(answers([10, 0, 6, 7, 2, 16] + SOON), [2, 0, 1])
        self.assertEqual(answers([10, 6, 0, 0, 2, 16] + SOON), [2, 0, 0])
        self.assertEqual(answers([11, 16] + SOON), [2, 0, 0])
        self.assertEqual(answers([11, 16] + EMPTY), [2, 0, 1])

    def test_the_calls_on_the_machine(self):
        self.assertEqual(answers([12, 3, 16] + ORIGIN), [2, 0, 0])
        self.assertEqual(answers([13, 0, 16] + ORIGIN), [2, 0, 0])
        self.assertEqual(answers([14, 0, 0, 2, 16] + ORIGIN), [2, 0, 0])
        self.assertEqual(answers([14, 0, 0, 2, 16] + ORIGIN + [14, 0, 0, 4, 16] + LATE), [2, 0, 0, 2, 0, 1])
        self.assertEqual(answers([15, 0, 16] + ORIGIN), [2, 0, 1])
        self.assertEqual(answers([16, 0, 16] + ORIGIN), [2, 0, 0])
        self.assertEqual(answers([17]), [3, 0, 1, 0])
        self.assertEqual(answers([18, 0]), [18, 0, 0] + ALL)

    def test_from_to_and_clocks_come_in_their_order(self):
        calls = [12, 3, 16] + ORIGIN + [14, 0, 2, 8, 16] + LATE + [17, 18, 1, 0, 16, 2, 16] + LATE
        gone = formed({(0, 1): -3, (0, 2): -3, (1, 2): 1, (2, 1): 1, (3, 1): -3, (3, 2): -3})
        self.assertEqual(answers(calls), [2, 0, 0, 2, 0, 0, 4, 0, 2, 0, 2, 18, 0, 2] + gone + [3, 0, 1, 0])

    def test_refusals_of_the_machine_are_alone(self):
        self.assertEqual(answers([12, 0, 16] + ORIGIN), [1, -1])
        self.assertEqual(answers([16, 0, 16] + zone({(1, 0): less(0)})), [1, -3])
        self.assertEqual(answers([18, 1, 0]), [1, -3])
        self.assertEqual(answers([18, 33] + [0] * 33), [1, -1])

    def test_a_refusal_is_alone(self):
        self.assertEqual(answers([0, 0]), [1, -1])
        self.assertEqual(answers([0, 16] + FAR), [1, -2])

    def test_whole_numbers_come_in_their_order(self):
        self.assertEqual(answers([5, 2, 7, 16] + ANYTHING),
                         [17, 0] + formed({(0, 1): -13, (1, 0): 15, (1, 2): 15, (1, 3): 15}))
        self.assertEqual(answers([6, 2, 7, 16] + zone({(1, 0): at_most(6)})), [17, 0] + EMPTY)
        self.assertEqual(answers([7, 4, 16] + zone({(2, 0): at_most(6)})), [17, 0] + ALL)
        self.assertEqual(answers([8, 6, 16] + zone({(2, 0): at_most(7)})), [17, 0] + ALL)

    def test_rows_come_in_their_order(self):
        narrow = zone({(1, 0): at_most(1)})
        self.assertEqual(answers(in_zone(narrow, ANYTHING)), [2, 0, 1])
        self.assertEqual(answers(in_zone(ANYTHING, narrow)), [2, 0, 0])

    def test_kinds(self):
        calls = list(all_calls_on(zone({(1, 0): 5})).items()) + list(simple_calls_on(zone({(1, 0): 5})).items())
        for name, call in calls + [("places", places()), ("lead", lead([])), ("all of them", TWO_PLACES + ASKED)]:
            with self.subTest(name):
                numbers = answers(call)
                self.assertIs(type(numbers), list)
                self.assertEqual({type(number) for number in numbers}, {int})


class SeveralCalls(unittest.TestCase):
    def test_each_is_answered_in_order_refused_ones_among_them(self):
        z = zone({(1, 0): less(3)})
        calls = [form(z), form([]), both(z, [1] * 15), in_zone(z, z), form(FAR), set_to(1, 0, z), later(z),
                 wide(1048577, z), both([0] * 32, [7] * 32), free(16, z), in_zone(ALL, z), form(EMPTY)]
        form_of_z = formed({(1, 0): 6, (1, 2): 6, (1, 3): 6})
        later_z = formed({(1, 2): 6, (1, 3): 6})
        wanted = [[0] + form_of_z, [-1], [-1], [0, 1], [-2], [-1], [0] + later_z, [-1], [-1], [-1], [0, 0], [0] + EMPTY]
        self.assertEqual(split(answers(sum(calls, []))), wanted)

    def test_each_is_answered_as_if_alone(self):
        calls = list(all_calls_on(zone({(1, 2): -3, (3, 0): 8})).values())
        calls += list(all_calls_on(FAR).values()) + list(all_calls_on([5] * 17).values())
        self.assertEqual(answers(sum(calls, [])), sum([answers(call) for call in calls], []))

    def test_calls_on_zones_among_those_on_the_machine(self):
        made = split(answers(TWO_PLACES + ASKED))
        apart = list(all_calls_on(zone({(1, 2): -3, (3, 0): 8})).values()) + list(all_calls_on(FAR).values())
        parts = [init(2, ORIGIN), place(0, SOON), edge(0, 1, 2, LATE), edge(1, 0, 14, ANYTHING), places(), can(1, LATE),
                 row(0, ORIGIN), row(1, SOON), row(1, zone({(2, 0): less(2)})), lead([0, 1]), lead([1]), lead([0] * 33),
                 can(2, ANYTHING)]
        self.assertEqual(sum(parts, []), TWO_PLACES + ASKED)
        calls, wanted = [], []
        for k, part in enumerate(parts):
            for other in (apart[k], apart[-1 - k], form([])):
                calls += other
                wanted += split(answers(other))
            calls += part
            wanted.append(made[k])
        self.assertEqual(split(answers(calls)), wanted)

    def test_what_the_machine_tells_in_one_list(self):
        led = formed({(1, 2): 1, (2, 1): 1, (1, 3): 1, (3, 1): 1, (2, 3): 1, (3, 2): 1,
                      (1, 0): 6, (2, 0): 6, (3, 0): 6})
        wanted = [[0, 0], [0, 0], [0, 0], [0, 1], [0, 2, 0, 1], [0, 1], [0, 0], [0, 1, 0], [-3], [0, 0] + led, [-3],
                  [-1], [-1]]
        self.assertEqual(split(answers(TWO_PLACES + ASKED)), wanted)

    def test_several_machines_one_behind_another(self):
        both_ways = answers(TWO_PLACES + ASKED)
        self.assertEqual(answers((TWO_PLACES + ASKED) * 3), both_ways * 3)

    def test_four_hundred_calls_on_one_machine(self):
        calls = TWO_PLACES + (row(1, SOON) + place(1, SOON) + can(0, LATE) + places()) * 99
        self.assertEqual(split(answers(calls))[4:], [[0, 1, 0], [0, 0], [0, 1], [0, 2, 0, 1]] * 99)

    def test_four_hundred_calls(self):
        call = both(zone({(1, 0): 5}), zone({(2, 0): 5}))
        self.assertEqual(answers(call * 400), answers(call) * 400)

    def test_the_longest_list(self):
        calls = both([NONE] * 32, [NONE] * 13) * 200 + both([NONE] * 32, [NONE] * 14) * 200
        self.assertEqual(len(calls), 19400)
        self.assertEqual(answers(calls), [1, -1] * 400)


class NothingIsKept(unittest.TestCase):
    def calls(self):
        on_zones = sum([sum(all_calls_on(z).values(), []) for z in (zone({(1, 0): 5}), FAR, EMPTY, [1, 2])], [])
        return on_zones + TWO_PLACES + ASKED + sum(simple_calls_on(FAR).values(), []) + ASKED

    def test_what_is_handed_in_stays_as_it_was(self):
        calls = self.calls()
        answers(calls)
        self.assertEqual(calls, self.calls())

    def test_what_is_handed_in_is_not_changed_for_a_while_either(self):
        self.assertEqual(answers(Watched(self.calls())), answers(self.calls()))

    def test_a_list_begins_with_a_machine_that_is_new(self):
        before = answers(ASKED)
        answers(TWO_PLACES + edge(0, 0, 0, ANYTHING) + place(0, ORIGIN))
        self.assertEqual(answers(ASKED), before)
        self.assertEqual(answers(ASKED)[:4], [3, 0, 1, 0])

    def test_the_same_again(self):
        before = answers(self.calls())
        wanted = list(before)
        for k in range(len(before)):
            before[k] = 77
        self.assertEqual(answers(self.calls()), wanted)


if __name__ == "__main__":
    unittest.main()
