"""The calls on the machine: what they answer."""

import unittest

from tests.helper import (
    ALL, ANYTHING, EMPTY, at_least, at_most, can, edge, form, formed, init, last_answer, lead, less, machine, more,
    place, places, row, told, zone)

ORIGIN = zone({(1, 0): at_most(0), (2, 0): at_most(0), (3, 0): at_most(0)})
NOTHING = zone({(1, 0): less(0)})
# All three clocks have gone on together from 0.
ALIKE = formed({(i, j): 1 for i in (1, 2, 3) for j in (1, 2, 3)})
# Clock 1 beats: it is set back whenever it reads 1, and nothing waits for longer.
BEAT = machine(1, ORIGIN, [(0, 0, 2, zone({(0, 1): at_least(1)}))], {0: zone({(1, 0): at_most(1)})})


class Asked(unittest.TestCase):
    def assert_told(self, wanted, calls, call):
        self.assertEqual(last_answer(calls + call), [0] + wanted)

    def assert_reached(self, wanted, calls, p, z):
        """By can and row at once: wanted is a row, or None for none."""
        self.assertEqual(last_answer(calls + can(p, z)), [0, 0 if wanted is None else 1])
        self.assertEqual(last_answer(calls + row(p, z)), [-3] if wanted is None else [0, len(wanted)] + wanted)


class AtTheBeginning(Asked):
    def test_one_place_all_readings_no_edges(self):
        self.assert_told([1, 0], [], places())
        self.assert_told([0] + ALL, [], lead([]))
        self.assert_reached([], [], 0, ANYTHING)
        self.assert_reached([], [], 0, zone({(0, 1): more(4), (2, 0): at_most(0), (3, 0): less(1)}))
        self.assert_reached(None, [], 0, NOTHING)
        self.assertEqual(last_answer(can(1, ANYTHING)), [-1])
        self.assertEqual(last_answer(lead([0])), [-3])

    def test_edges_and_stays_may_come_without_init(self):
        self.assert_told([0], [], edge(0, 0, 2, ANYTHING))
        self.assert_told([0], [], place(0, ORIGIN))
        self.assert_told([0] + told(form(ORIGIN)), place(0, ORIGIN), lead([]))
        self.assert_told([0] + formed({(1, 2): 1, (1, 3): 1}), edge(0, 0, 2, ANYTHING), lead([0]))


class Making(Asked):
    def test_init_answers_0_and_so_does_place(self):
        for count in (1, 2, 3, 4):
            self.assert_told([0], [], init(count, ANYTHING))
            for p in range(count):
                self.assert_told([0], init(count, ANYTHING), place(p, NOTHING))

    def test_init_has_so_many_places(self):
        for count in (1, 2, 3, 4):
            for p in range(6):
                wanted = [0, 1 if p == 0 else 0] if p < count else [-1]
                self.assertEqual(last_answer(init(count, ANYTHING) + can(p, ANYTHING)), wanted)

    def test_edges_are_numbered_as_they_come(self):
        calls = init(3, ANYTHING)
        for number in range(8):
            one = edge(number % 3, (number + 1) % 3, 2, ANYTHING)
            self.assert_told([number], calls, one)
            calls += one

    def test_init_takes_edges_stays_places_and_first_away(self):
        calls = machine(4, ORIGIN, [(0, 1, 0, ANYTHING), (1, 2, 0, ANYTHING)], {0: ORIGIN, 1: NOTHING, 3: NOTHING})
        calls += init(2, zone({(0, 1): at_least(1)}))
        self.assertEqual(last_answer(calls + lead([0])), [-3])
        self.assertEqual(last_answer(calls + can(2, ANYTHING)), [-1])
        self.assert_told([0] + told(form(zone({(0, 1): at_least(1)}))), calls, lead([]))
        self.assert_told([0], calls, edge(0, 1, 0, ANYTHING))
        self.assert_told([2, 0, 1], calls + edge(0, 1, 0, ANYTHING), places())

    def test_place_puts_a_stay_in_the_place_of_the_one_before(self):
        calls = machine(2, ORIGIN, [(0, 1, 0, ANYTHING)], {0: zone({(1, 0): at_most(2)}), 1: NOTHING})
        self.assert_told([1, 0], calls, places())
        self.assert_reached(None, calls, 0, zone({(0, 1): more(2)}))
        calls += place(1, ANYTHING) + place(0, zone({(2, 0): less(4)}))
        self.assert_told([2, 0, 1], calls, places())
        self.assert_reached([], calls, 0, zone({(0, 1): more(3)}))
        self.assert_reached(None, calls, 0, zone({(0, 1): at_least(4)}))

    def test_what_was_asked_before_is_asked_anew_after_a_change(self):
        calls = init(2, ORIGIN) + places() + can(1, ANYTHING)
        self.assert_told([1, 0], calls, places())
        calls += edge(0, 1, 0, ANYTHING)
        self.assert_told([2, 0, 1], calls, places())
        calls += places() + place(1, NOTHING)
        self.assert_told([1, 0], calls, places())
        calls += places() + init(1, NOTHING)
        self.assert_told([0], calls, places())


class Waiting(Asked):
    def test_waiting_goes_on_for_ever_without_a_stay(self):
        self.assert_told([0] + ALIKE, init(1, ORIGIN), lead([]))
        self.assert_reached([], init(1, ORIGIN), 0, zone({(0, 1): more(4), (0, 2): more(4), (0, 3): more(4)}))
        self.assert_reached(None, init(1, ORIGIN), 0, zone({(0, 1): more(4), (2, 0): at_most(4)}))

    def test_as_long_as_the_stay_lets(self):
        for bound, there, beyond in ((at_most(3), at_least(3), more(3)), (less(3), more(2), at_least(3))):
            calls = machine(1, ORIGIN, [], {0: zone({(2, 0): bound})})
            self.assert_reached([], calls, 0, zone({(0, 1): there}))
            self.assert_reached(None, calls, 0, zone({(0, 1): beyond}))

    def test_waiting_takes_fractions(self):
        between = zone({(0, 1): more(2), (1, 0): less(3)})
        self.assert_reached([], init(1, ORIGIN), 0, between)
        calls = machine(4, ORIGIN, [(0, 1, 4, zone({(0, 3): more(0)})), (1, 2, 2, zone({(0, 2): more(0)})),
                                    (2, 3, 0, zone({(0, 1): more(0), (3, 0): less(1)}))])
        self.assert_reached([0, 1, 2], calls, 3, ANYTHING)
        self.assert_reached(None, calls, 3, zone({(2, 0): at_most(0)}))

    def test_first_and_stay_must_both_hold(self):
        calls = machine(1, zone({(0, 1): at_least(2)}), [], {0: zone({(1, 0): at_most(2), (0, 2): at_least(1)})})
        self.assert_told([0] + formed({(0, 1): -3, (0, 2): -1, (1, 0): 5, (1, 2): 3, (1, 3): 5}), calls, lead([]))

    def test_a_stay_that_begins_later_is_not_waited_for(self):
        calls = machine(2, ORIGIN, [(0, 1, 0, ANYTHING)], {1: zone({(0, 1): at_least(3)})})
        self.assert_reached([0], calls, 1, ANYTHING)
        self.assert_reached(None, calls + place(0, zone({(1, 0): less(3)})), 1, ANYTHING)
        calls = machine(1, ORIGIN, [], {0: zone({(0, 1): more(0)})})
        self.assert_told([0], calls, places())


class Edges(Asked):
    def test_when_holds_before_the_clocks_are_set_and_the_stay_after(self):
        calls = machine(2, ORIGIN, [(0, 1, 2, zone({(0, 1): at_least(2)}))], {1: zone({(1, 0): at_most(1)})})
        self.assert_reached([0], calls, 1, zone({(0, 2): at_least(2), (1, 0): at_most(0)}))
        self.assert_reached(None, calls, 1, zone({(2, 0): less(2)}))
        self.assert_reached(None, calls, 1, zone({(0, 1): more(1)}))
        calls = machine(2, ORIGIN, [(0, 1, 2, ANYTHING)], {1: zone({(0, 1): more(0)})})
        self.assert_told([1, 0], calls, places())

    def test_each_set_of_clocks(self):
        for clocks in (0, 2, 4, 6, 8, 10, 12, 14):
            calls = machine(2, zone({(0, 1): more(4), (0, 2): more(4), (0, 3): more(4)}), [(0, 1, clocks, ANYTHING)])
            for clock in (1, 2, 3):
                wanted = [0] if (clocks >> clock) & 1 else None
                self.assert_reached(wanted, calls, 1, zone({(clock, 0): at_most(0)}))

    def test_an_edge_goes_one_way(self):
        calls = machine(3, ORIGIN, [(1, 0, 0, ANYTHING), (1, 2, 0, ANYTHING), (2, 0, 0, ANYTHING)])
        self.assert_told([1, 0], calls, places())
        self.assert_reached(None, calls, 2, ANYTHING)

    def test_an_edge_that_is_never_taken(self):
        for when in (NOTHING, zone({(0, 1): more(1), (2, 0): at_most(1)}), zone({(0, 0): 0}), zone({(2, 2): -8})):
            calls = machine(2, ORIGIN, [(0, 1, 14, when)])
            self.assert_told([1, 0], calls, places())
            self.assert_reached(None, calls, 1, ANYTHING)
            self.assert_told([1] + EMPTY, calls, lead([0]))


class Reached(Asked):
    def test_no_run_at_all(self):
        for calls in (init(3, NOTHING), machine(2, ORIGIN, [(0, 1, 0, ANYTHING)], {0: NOTHING}),
                      machine(2, ORIGIN, [(0, 1, 0, ANYTHING)], {0: zone({(0, 1): at_least(1)})})):
            self.assert_told([0], calls, places())
            self.assert_reached(None, calls, 0, ANYTHING)
            self.assert_reached(None, calls, 1, ANYTHING)

    def test_places_rise_and_leave_out_what_is_not_reached(self):
        calls = machine(4, ORIGIN, [(0, 3, 0, ANYTHING), (3, 1, 0, ANYTHING), (2, 0, 0, ANYTHING), (2, 2, 0, ANYTHING)])
        self.assert_told([3, 0, 1, 3], calls, places())

    def test_a_loop_that_beats_for_ever(self):
        for beats in range(5):
            self.assert_reached([0] * beats, BEAT, 0, zone({(1, 0): at_most(0), (0, 2): at_least(beats)}))
        self.assert_reached([0] * 5, BEAT, 0, zone({(1, 0): at_most(0), (0, 2): more(4)}))
        self.assert_reached([0] * 4, BEAT, 0, zone({(0, 2): more(4)}))
        self.assert_reached(None, BEAT, 0, zone({(1, 0): at_most(0), (0, 2): more(2), (2, 0): less(3)}))
        self.assert_reached(None, BEAT, 0, zone({(0, 2): more(4), (3, 0): at_most(4)}))
        self.assert_reached(None, BEAT, 0, zone({(0, 1): more(1)}))
        self.assert_told([1, 0], BEAT, places())

    def test_two_beats_that_never_meet_but_on_the_whole(self):
        calls = machine(2, ORIGIN, [
            (0, 0, 2, zone({(0, 1): at_least(2), (1, 0): at_most(2)})),
            (0, 0, 4, zone({(0, 2): at_least(3), (2, 0): at_most(3)})),
            (0, 1, 0, zone({(1, 0): at_most(0), (2, 0): at_most(0), (0, 3): more(0)})),
        ], {0: zone({(1, 0): at_most(2), (2, 0): at_most(3)})})
        self.assert_reached([0, 1, 0, 0, 1, 2], calls, 1, ANYTHING)
        self.assert_reached(None, calls, 1, zone({(3, 0): at_most(4)}))
        self.assert_reached(None, calls, 0, zone({(0, 1): more(0), (1, 0): less(1), (2, 0): at_most(0)}))
        self.assert_reached([0], calls, 0, zone({(0, 1): at_least(1), (1, 0): at_most(1), (0, 2): at_least(3)}))

    def test_a_loop_within_less_than_no_time(self):
        # Ever smaller steps: as often as you like, yet clock 2 never comes to 1.
        calls = machine(2, ORIGIN, [(0, 0, 2, zone({(0, 1): more(0), (2, 0): less(1)})),
                                    (0, 1, 0, zone({(0, 2): at_least(1)}))], {0: zone({(2, 0): less(1)})})
        self.assert_reached([0], calls, 0, zone({(1, 0): at_most(0), (0, 2): more(0)}))
        self.assert_reached(None, calls, 1, ANYTHING)
        self.assert_told([1, 0], calls, places())

    def test_a_message_unanswered_for_three_is_sent_again(self):
        # 0 waits to send, 1 waits for an answer, 2 has it. Clock 1 since it was sent, clock 2 since the first time.
        calls = machine(3, ORIGIN, [
            (0, 1, 6, ANYTHING),
            (1, 1, 2, zone({(0, 1): at_least(3)})),
            (1, 2, 0, zone({(0, 1): at_least(1), (1, 0): less(3)})),
        ], {1: zone({(1, 0): at_most(3)})})
        self.assert_reached([0, 2], calls, 2, ANYTHING)
        self.assert_reached([0, 2], calls, 2, zone({(0, 2): at_least(4)}))
        self.assert_reached([0, 1], calls, 1, zone({(0, 2): more(3), (1, 0): at_most(1)}))
        self.assert_reached(None, calls, 1, zone({(0, 2): more(3), (2, 0): less(4), (0, 1): at_least(1),
                                                  (1, 0): less(3)}))
        self.assert_reached([0, 1, 1], calls, 1, zone({(0, 2): more(4), (1, 0): less(1)}))
        self.assert_reached(None, calls, 2, zone({(1, 0): less(1)}))

    def test_it_hangs_on_the_sets_alone(self):
        # Bounds that all readings keep anyway, told or not told.
        idle = {(0, 0): 9, (1, 1): 1, (2, 2): 8, (3, 3): 2, (0, 1): 9, (0, 2): 1, (0, 3): 4}
        answered = []
        for more_told in ({}, idle):
            bounds = [{(1, 0): at_most(1)}, {(0, 1): at_least(1)}, {(1, 0): at_most(0), (0, 2): more(3)}]
            stay, when, target = [zone({**more_told, **told_anyway}) for told_anyway in bounds]
            calls = machine(2, zone(more_told), [(0, 0, 2, when), (0, 1, 12, when)], {0: stay, 1: stay})
            answered.append([last_answer(calls + call) for call in (
                places(), can(0, target), row(0, target), row(1, target), lead([0, 0]), lead([0, 1]))])
        self.assertEqual(answered[0], answered[1])
        self.assertEqual(answered[0][:4], [[0, 2, 0, 1], [0, 1], [0, 0], [-3]])

    def test_can_and_row_ask_for_the_stay_as_well(self):
        calls = machine(1, ANYTHING, [], {0: zone({(1, 0): at_most(2)})})
        self.assert_reached(None, calls, 0, zone({(0, 1): more(2)}))


class Row(Asked):
    def test_the_shortest_goes_ahead_of_lesser_numbers(self):
        calls = machine(3, ORIGIN, [(0, 1, 0, ANYTHING), (1, 2, 0, ANYTHING), (0, 2, 0, ANYTHING)])
        self.assert_reached([2], calls, 2, ANYTHING)

    def test_of_the_shortest_the_least_first_edge_then_the_second(self):
        calls = machine(3, ORIGIN, [(1, 2, 0, NOTHING), (0, 1, 0, ANYTHING), (0, 1, 0, ANYTHING), (1, 2, 0, ANYTHING),
                                    (1, 2, 0, ANYTHING)])
        self.assert_reached([1, 3], calls, 2, ANYTHING)
        calls = machine(4, ORIGIN, [(2, 3, 0, ANYTHING), (0, 1, 0, ANYTHING), (0, 2, 0, ANYTHING), (1, 3, 0, ANYTHING)])
        self.assert_reached([1, 3], calls, 3, ANYTHING)

    def test_a_greater_edge_whose_readings_are_more(self):
        calls = machine(2, ORIGIN, [(0, 1, 2, zone({(1, 0): at_most(1)})), (0, 1, 2, zone({(1, 0): at_most(2)})),
                                    (1, 1, 8, zone({(0, 3): at_least(2), (1, 0): at_most(0)}))])
        self.assert_reached([0], calls, 1, zone({(1, 0): at_most(0)}))
        self.assert_reached([1], calls, 1, zone({(1, 0): at_most(0), (0, 3): at_least(2)}))
        self.assert_reached([1, 2], calls, 1, zone({(1, 0): at_most(0), (3, 0): at_most(0), (0, 2): at_least(2)}))

    def test_the_way_of_lesser_numbers_may_be_shut_later_on(self):
        calls = machine(4, ORIGIN, [
            (0, 1, 2, zone({(0, 1): at_least(4)})),
            (0, 1, 2, zone({(1, 0): at_most(1)})),
            (1, 2, 0, ANYTHING),
            (2, 3, 0, zone({(2, 0): less(4)})),
        ])
        self.assert_reached([0, 2], calls, 2, ANYTHING)
        self.assert_reached([1, 2, 3], calls, 3, ANYTHING)

    def test_no_edges_are_needed_for_the_beginning(self):
        calls = machine(1, ORIGIN, [(0, 0, 0, ANYTHING)])
        self.assert_reached([], calls, 0, ANYTHING)

    def test_a_place_within_a_beat(self):
        calls = machine(2, ORIGIN, [
            (0, 1, 6, zone({(0, 1): at_least(1), (0, 2): at_least(4)})),
            (0, 0, 2, zone({(0, 1): at_least(1)})),
            (1, 0, 0, ANYTHING),
        ], {0: zone({(1, 0): at_most(1), (2, 0): at_most(4)}), 1: zone({(1, 0): at_most(0)})})
        self.assert_reached([1, 1, 1, 0], calls, 1, zone({(0, 3): at_least(4)}))
        self.assert_reached([1, 1, 1, 0, 2, 1, 1, 1, 0], calls, 1, zone({(0, 3): more(4)}))

    def test_more_edges_than_lead_takes(self):
        # Clock 1 beats by 4 and by 3 in turn, clock 2 by 4, clock 3 by 3; all at once, back in place 0, first at 63.
        beats = [(0, 1, 1, 4), (1, 0, 1, 3), (0, 0, 2, 4), (1, 1, 2, 4), (0, 0, 3, 3), (1, 1, 3, 3)]
        first = zone({(1, 0): at_most(0), (0, 2): at_least(1), (2, 0): at_most(1), (3, 0): at_most(0)})
        calls = machine(2, first, [
            (begin, end, 1 << clock, zone({(0, clock): at_least(beat), (clock, 0): at_most(beat)}))
            for begin, end, clock, beat in beats
        ], {0: zone({(1, 0): at_most(4), (2, 0): at_most(4), (3, 0): at_most(3)}),
            1: zone({(1, 0): at_most(3), (2, 0): at_most(4), (3, 0): at_most(3)})})
        here, readings, wanted = 0, [0, 0, 1, 0], []
        while here != 0 or readings != [0, 0, 0, 0]:
            due = [k for k, beat in enumerate(beats) if beat[0] == here and readings[beat[2]] == beat[3]]
            if due:
                wanted.append(due[0])
                here = beats[due[0]][1]
                readings[beats[due[0]][2]] = 0
            else:
                readings = [0] + [reading + 1 for reading in readings[1:]]
        self.assertEqual(len(wanted), 55)
        self.assert_reached(wanted, calls, 0, ORIGIN)
        self.assert_reached(None, calls, 1, zone({(1, 0): at_most(0), (0, 2): more(0), (2, 0): less(1)}))
        self.assertEqual(last_answer(calls + lead(wanted)), [-1])


class Lead(Asked):
    def test_no_edges(self):
        self.assert_told([0] + ALIKE, init(2, ORIGIN), lead([]))
        self.assert_told([0] + EMPTY, init(2, NOTHING), lead([]))
        self.assert_told([0] + EMPTY, machine(2, ORIGIN, [], {0: NOTHING}), lead([]))

    def test_a_last_wait_is_counted_as_far_as_the_stay_lets(self):
        calls = machine(2, ORIGIN, [(0, 1, 2, zone({(0, 1): at_least(2), (1, 0): at_most(3)}))])
        gone = formed({(0, 2): -3, (0, 3): -3, (1, 2): -3, (1, 3): -3, (2, 1): 7, (3, 1): 7, (2, 3): 1, (3, 2): 1})
        self.assert_told([1] + gone, calls, lead([0]))
        stay = formed({(0, 2): -3, (0, 3): -3, (1, 0): 2, (1, 2): -3, (1, 3): -3, (2, 0): 8, (2, 1): 7, (2, 3): 1,
                       (3, 0): 8, (3, 1): 7, (3, 2): 1})
        self.assert_told([1] + stay, calls + place(1, zone({(1, 0): less(1)})), lead([0]))

    def test_nothing_is_widened(self):
        for beats in (1, 5, 6, 31, 32):
            gone = formed({(0, 2): at_most(-beats), (0, 3): at_most(-beats), (1, 0): 3, (1, 2): at_most(-beats),
                           (1, 3): at_most(-beats), (2, 0): at_most(beats + 1), (2, 1): at_most(beats), (2, 3): 1,
                           (3, 0): at_most(beats + 1), (3, 1): at_most(beats), (3, 2): 1})
            self.assert_told([0] + gone, BEAT, lead([0] * beats))

    def test_the_bounds_of_the_longest_rows_are_far_from_out_of_reach(self):
        calls = machine(1, zone({(1, 0): at_most(4)}), [
            (0, 0, 2, zone({(1, 0): at_most(4)})), (0, 0, 4, zone({(2, 0): at_most(4)}))])
        self.assertEqual(last_answer(calls + lead([0, 1] * 16))[:2], [0, 0])

    def test_an_empty_set_stays_empty_and_has_its_place(self):
        calls = machine(3, ORIGIN, [(0, 1, 0, NOTHING), (1, 2, 14, ANYTHING), (2, 0, 0, ANYTHING)])
        self.assert_told([1] + EMPTY, calls, lead([0]))
        self.assert_told([2] + EMPTY, calls, lead([0, 1]))
        self.assert_told([0] + EMPTY, calls, lead([0, 1, 2]))

    def test_an_edge_may_come_again(self):
        calls = machine(2, ORIGIN, [(0, 1, 0, ANYTHING), (1, 0, 14, ANYTHING)])
        self.assert_told([0] + ALIKE, calls, lead([0, 1, 0, 1]))
        self.assert_told([1] + ALIKE, calls, lead([0, 1, 0]))

    def test_it_tells_more_than_one_of_the_ways(self):
        calls = machine(2, ORIGIN, [(0, 1, 2, ANYTHING), (0, 1, 4, ANYTHING)])
        self.assert_told([1] + formed({(1, 2): 1, (1, 3): 1, (2, 3): 1, (3, 2): 1}), calls, lead([0]))
        self.assert_told([1] + formed({(2, 1): 1, (2, 3): 1, (1, 3): 1, (3, 1): 1}), calls, lead([1]))


if __name__ == "__main__":
    unittest.main()
