"""How a list of calls is read, and how it is answered."""

import unittest

from clockzones.machine import answers
from tests.helper import (
    ALL, ANYTHING, EMPTY, NONE, all_calls_on, at_most, both, form, formed, free, in_zone, later, less, set_to, split,
    wide, zone)

FAR = zone({(1, 0): at_most(1048576), (2, 1): at_most(1)})


class Watched(list):
    """A list that may be read alone."""

    def refuse(self, *_):
        raise AssertionError("what is handed in is changed")

    append = extend = insert = pop = remove = clear = sort = reverse = refuse
    __setitem__ = __delitem__ = __iadd__ = __imul__ = refuse


class OneCall(unittest.TestCase):
    def test_a_form_is_told_as_0_and_sixteen(self):
        z = zone({(1, 0): less(3)})
        self.assertEqual(answers([0, 16] + z), [17, 0] + formed({(1, 0): 6, (1, 2): 6, (1, 3): 6}))

    def test_in_is_told_as_0_and_one(self):
        self.assertEqual(answers([9, 16] + ALL + [16] + ALL), [2, 0, 1])
        self.assertEqual(answers([9, 16] + ALL + [16] + EMPTY), [2, 0, 0])

    def test_a_refusal_is_alone(self):
        self.assertEqual(answers([0, 0]), [1, -1])
        self.assertEqual(answers([0, 16] + FAR), [1, -2])

    def test_whole_numbers_come_in_their_order(self):
        self.assertEqual(answers([5, 2, 7, 16] + ANYTHING),
                         [17, 0] + formed({(0, 1): -13, (1, 0): 15, (1, 2): 15, (1, 3): 15}))
        self.assertEqual(answers([6, 2, 7, 16] + zone({(1, 0): at_most(6)})), [17, 0] + EMPTY)
        self.assertEqual(answers([7, 4, 16] + zone({(2, 0): at_most(6)})), [17, 0] + ALL)
        self.assertEqual(answers([8, 6, 16] + zone({(2, 0): at_most(7)})), [17, 0] + ALL)

    def test_rows_come_in_their_order(self):
        narrow = zone({(1, 0): at_most(1)})
        self.assertEqual(answers(in_zone(narrow, ANYTHING)), [2, 0, 1])
        self.assertEqual(answers(in_zone(ANYTHING, narrow)), [2, 0, 0])

    def test_kinds(self):
        for name, call in all_calls_on(zone({(1, 0): 5})).items():
            with self.subTest(name):
                numbers = answers(call)
                self.assertIs(type(numbers), list)
                self.assertEqual({type(number) for number in numbers}, {int})


class SeveralCalls(unittest.TestCase):
    def test_each_is_answered_in_order_refused_ones_among_them(self):
        z = zone({(1, 0): less(3)})
        calls = [form(z), form([]), both(z, [1] * 15), in_zone(z, z), form(FAR), set_to(1, 0, z), later(z),
                 wide(1048577, z), both([0] * 32, [7] * 32), free(16, z), in_zone(ALL, z), form(EMPTY)]
        form_of_z = formed({(1, 0): 6, (1, 2): 6, (1, 3): 6})
        later_z = formed({(1, 2): 6, (1, 3): 6})
        wanted = [[0] + form_of_z, [-1], [-1], [0, 1], [-2], [-1], [0] + later_z, [-1], [-1], [-1], [0, 0], [0] + EMPTY]
        self.assertEqual(split(answers(sum(calls, []))), wanted)

    def test_each_is_answered_as_if_alone(self):
        calls = list(all_calls_on(zone({(1, 2): -3, (3, 0): 8})).values())
        calls += list(all_calls_on(FAR).values()) + list(all_calls_on([5] * 17).values())
        self.assertEqual(answers(sum(calls, [])), sum([answers(call) for call in calls], []))

    def test_four_hundred_calls(self):
        call = both(zone({(1, 0): 5}), zone({(2, 0): 5}))
        self.assertEqual(answers(call * 400), answers(call) * 400)

    def test_the_longest_list(self):
        calls = both([NONE] * 32, [NONE] * 13) * 200 + both([NONE] * 32, [NONE] * 14) * 200
        self.assertEqual(len(calls), 19400)
        self.assertEqual(answers(calls), [1, -1] * 400)


class NothingIsKept(unittest.TestCase):
    def calls(self):
        return sum([sum(all_calls_on(z).values(), []) for z in (zone({(1, 0): 5}), FAR, EMPTY, [1, 2])], [])

    def test_what_is_handed_in_stays_as_it_was(self):
        calls = self.calls()
        answers(calls)
        self.assertEqual(calls, self.calls())

    def test_what_is_handed_in_is_not_changed_for_a_while_either(self):
        self.assertEqual(answers(Watched(self.calls())), answers(self.calls()))

    def test_the_same_again(self):
        before = answers(self.calls())
        wanted = list(before)
        for k in range(len(before)):
            before[k] = 77
        self.assertEqual(answers(self.calls()), wanted)


if __name__ == "__main__":
    unittest.main()
