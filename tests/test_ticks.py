import unittest

from tests.helpers import PLAIN, ROW, ask, begin, now, on_ticks, soon, stands, ticks


def run(n, orders, text=PLAIN, supply=32):
    return ask(begin(text, supply), ticks(n, [], orders))[1]


class Pulses(unittest.TestCase):
    def test_nothing_ordered(self):
        self.assertEqual(run(4, []), [0, 0, 0, 0, 0])

    def test_a_pulse(self):
        self.assertEqual(run(6, [(1, 0, 0, 2)]), [0, 0, 1, 1, 0, 0, 0])

    def test_sums_of_all_that_is_on(self):
        orders = [(0, 0, 31, 3), (1, 0, 3, 2), (1, 0, 0, 1), (2, 0, 30, 1)]
        top, out = 2147483648, 1073741824
        self.assertEqual(run(4, orders), [0, top, top + 8 + 1, top + out + 8, 0])

    def test_the_longest_pulse(self):
        self.assertEqual(on_ticks(run(9, [(0, 0, 0, 5)]), 0), [0, 1, 2, 3, 4])
        self.assertEqual(on_ticks(run(2000, [(0, 0, 31, 1023)]), 31), list(range(1023)))

    def test_a_rest_behind_a_pulse(self):
        # Pulsed in 0 and 1, resting in 2, 3 and 4.
        for asked in (2, 3, 4, 5):
            self.assertEqual(on_ticks(run(9, [(0, 0, 0, 2), (asked, 0, 0, 1)]), 0), [0, 1, 5])
        self.assertEqual(on_ticks(run(9, [(0, 0, 0, 2), (6, 0, 0, 1)]), 0), [0, 1, 6])

    def test_a_pulse_asked_for_while_one_is_pulsed(self):
        self.assertEqual(on_ticks(run(12, [(0, 0, 0, 3), (1, 0, 0, 5), (2, 0, 0, 5)]), 0), [0, 1, 2])

    def test_a_pulse_asked_for_while_one_waits(self):
        self.assertEqual(on_ticks(run(12, [(0, 0, 0, 1), (1, 0, 0, 2), (2, 0, 0, 5)]), 0), [0, 4, 5])
        self.assertEqual(on_ticks(run(12, [(0, 0, 0, 2), (0, 0, 0, 5)]), 0), [0, 1])

    def test_a_pulse_that_is_not_let_wait_brings_no_hold(self):
        self.assertEqual(on_ticks(run(20, [(0, 0, 3, 2), (0, 1, 3, 2), (1, 1, 3, 4)]), 3), [0, 1])
        self.assertEqual(on_ticks(run(20, [(0, 0, 3, 1), (1, 0, 3, 1), (2, 1, 3, 1)]), 3), [0, 3])


class Holds(unittest.TestCase):
    def test_in_which_ticks_a_held_coil_is_on(self):
        # Pulsed in 0 and 1, held from 2 on, on in each third tick.
        self.assertEqual(on_ticks(run(14, [(0, 1, 3, 2)]), 3), [0, 1, 4, 7, 10, 13])
        self.assertEqual(on_ticks(run(6, [(0, 1, 0, 1)], ROW), 0), [0, 2, 4])
        self.assertEqual(on_ticks(run(40, [(0, 1, 31, 1)]), 31), [0, 16, 32])

    def test_a_pulse_asked_for_while_held(self):
        orders = [(0, 1, 3, 1), (2, 0, 3, 4), (3, 1, 3, 4)]
        self.assertEqual(on_ticks(run(14, orders), 3), [0, 3, 6, 9, 12])

    def test_the_hold_of_a_pulse_that_waits(self):
        # Pulsed in 0, resting in 1 and 2, pulsed in 3, held from 4 on.
        self.assertEqual(on_ticks(run(14, [(0, 0, 3, 1), (1, 1, 3, 1)]), 3), [0, 3, 6, 9, 12])

    def test_held_coils_do_not_count_for_the_supply(self):
        orders = [(0, 1, 0, 1), (1, 0, 1, 2)]
        found = run(4, orders, ROW, 1)
        self.assertEqual((on_ticks(found, 0), on_ticks(found, 1)), ([0, 2], [1, 2]))


class LetGo(unittest.TestCase):
    def test_of_a_held_coil(self):
        # Held from 1 on, resting in 3 and 4 (3 would have been the tick in which it's on).
        self.assertEqual(on_ticks(run(12, [(0, 1, 3, 1), (3, 2, 3, 0)]), 3), [0])
        self.assertEqual(on_ticks(run(12, [(0, 1, 3, 1), (3, 2, 3, 0), (3, 0, 3, 1)]), 3), [0, 5])

    def test_of_a_pulsed_coil_the_pulse_goes_on(self):
        self.assertEqual(on_ticks(run(20, [(0, 1, 3, 3), (1, 2, 3, 0)]), 3), [0, 1, 2])
        self.assertEqual(on_ticks(run(20, [(0, 1, 3, 3), (1, 2, 3, 0), (3, 0, 3, 1)]), 3), [0, 1, 2, 5])

    def test_of_a_pulse_that_waits(self):
        self.assertEqual(on_ticks(run(20, [(0, 0, 3, 1), (1, 1, 3, 2), (2, 2, 3, 0)]), 3), [0])
        self.assertEqual(on_ticks(run(20, [(0, 0, 3, 1), (1, 1, 3, 2), (2, 2, 3, 0), (2, 0, 3, 1)]), 3), [0, 3])

    def test_in_the_tick_in_which_it_was_asked_for(self):
        self.assertEqual(run(3, [(0, 0, 0, 2), (0, 2, 0, 0)]), [0, 0, 0, 0])

    def test_of_a_resting_or_free_coil(self):
        orders = [(0, 2, 0, 0), (1, 0, 0, 1), (3, 2, 0, 0), (3, 0, 0, 1)]
        self.assertEqual(on_ticks(run(9, orders), 0), [1, 5])


class Stops(unittest.TestCase):
    def test_of_a_pulsed_coil(self):
        # Resting in 2, 3 and 4.
        self.assertEqual(on_ticks(run(12, [(0, 0, 0, 5), (2, 3, 0, 0)]), 0), [0, 1])
        self.assertEqual(on_ticks(run(12, [(0, 0, 0, 5), (2, 3, 0, 0), (2, 0, 0, 1)]), 0), [0, 1, 5])

    def test_of_a_pulsed_coil_that_is_to_be_held(self):
        self.assertEqual(on_ticks(run(20, [(0, 1, 3, 4), (1, 3, 3, 0)]), 3), [0])

    def test_of_a_held_coil(self):
        self.assertEqual(on_ticks(run(12, [(0, 1, 3, 1), (3, 3, 3, 0), (3, 0, 3, 1)]), 3), [0, 5])

    def test_of_a_pulse_that_waits(self):
        self.assertEqual(on_ticks(run(12, [(0, 0, 0, 1), (1, 0, 0, 2), (2, 3, 0, 0)]), 0), [0])

    def test_a_resting_coil_rests_on_as_it_did(self):
        self.assertEqual(on_ticks(run(12, [(0, 0, 0, 1), (3, 3, 0, 0), (3, 0, 0, 1)]), 0), [0, 4])

    def test_a_free_coil_stays_free(self):
        self.assertEqual(run(1, [(0, 3, 0, 0), (0, 0, 0, 1)]), [0, 1])

    def test_other_coils_are_left_alone(self):
        self.assertEqual(run(3, [(0, 0, 0, 3), (0, 0, 3, 3), (1, 3, 0, 0)]), [0, 9, 8, 8])

    def test_of_all(self):
        orders = [(0, 0, 0, 1), (0, 0, 30, 9), (0, 1, 31, 1), (1, 0, 3, 4), (2, 0, 0, 1), (3, 4, 0, 0)]
        found = ask(begin(PLAIN), ticks(4, [], orders), stands(0), stands(3), stands(30), stands(31))
        self.assertEqual(found[1], [0, 1 + 2 ** 30 + 2 ** 31, 8 + 2 ** 30, 8 + 2 ** 30, 0])
        self.assertEqual(found[2:], [[0, 0, 0], [0, 0, 1], [0, 0, 0], [0, 0, 4094]])

    def test_of_all_leaves_kicks_as_they_are(self):
        self.assertEqual(ask(begin(PLAIN), ticks(1, [], [(0, 5, 0, 1), (0, 4, 0, 0)]), now())[2], [0, 1, 1])


class Supply(unittest.TestCase):
    def test_more_than_the_supply_bears(self):
        orders = [(0, 0, place, 2) for place in (3, 1, 2, 0, 4)]
        self.assertEqual(run(7, orders, ROW, 2), [0, 3, 3, 12, 12, 16, 16, 0])

    def test_a_supply_of_one(self):
        orders = [(0, 0, place, 1) for place in range(8)]
        self.assertEqual(run(9, orders, ROW, 1), [0, 1, 2, 4, 8, 16, 32, 64, 128, 0])

    def test_the_earliest_tick_before_the_least_place(self):
        orders = [(0, 0, 5, 4), (1, 0, 7, 1), (2, 0, 3, 1), (2, 0, 1, 1), (3, 0, 0, 1)]
        self.assertEqual(run(9, orders, ROW, 1), [0, 32, 32, 32, 32, 128, 2, 8, 1, 0])

    def test_a_resting_coil_does_not_hold_up_others(self):
        # Coil 0 waits since 1 and rests until 3; coil 1 waits since 2 and is free.
        orders = [(0, 0, 0, 1), (1, 0, 0, 1), (2, 0, 1, 1), (4, 0, 2, 1)]
        self.assertEqual(run(7, orders, ROW, 1), [0, 1, 0, 2, 0, 1, 4, 0])

    def test_since_counts_while_it_rests(self):
        # Both can begin in 4; coil 1 waits since 1, coil 0 since 2.
        orders = [(0, 0, 0, 1), (0, 0, 1, 1), (1, 0, 1, 1), (2, 0, 0, 1)]
        self.assertEqual(run(7, orders, ROW, 2), [0, 3, 0, 0, 0, 3, 0, 0])
        orders = [(0, 0, 0, 1), (1, 0, 1, 1), (2, 0, 1, 1), (3, 0, 0, 1), (3, 0, 7, 2)]
        self.assertEqual(run(9, orders, ROW, 1), [0, 1, 2, 0, 128, 128, 2, 1, 0, 0])

    def test_a_dropped_pulse_makes_room(self):
        orders = [(0, 0, 0, 2), (0, 0, 1, 2), (0, 0, 2, 2), (1, 3, 1, 0)]
        self.assertEqual(run(5, orders, ROW, 1), [0, 1, 1, 4, 4, 0])

    def test_a_stopped_pulse_makes_room_at_once(self):
        orders = [(0, 0, 0, 5), (0, 0, 1, 2), (1, 3, 0, 0)]
        self.assertEqual(run(4, orders, ROW, 1), [0, 1, 2, 2, 0])


class Bounds(unittest.TestCase):
    def refused(self, call, answer):
        """Refused, and all is as it was."""
        first = ticks(3, [], [(0, 5, 0, 1), (0, 0, 0, 2), (1, 1, 3, 4), (2, 0, 0, 1), (2, 0, 31, 1)])
        look = [now(), stands(0), stands(3), stands(30), stands(31), soon(30), ticks(12)]
        plain = ask(begin(PLAIN, 1), first, *look)
        found = ask(begin(PLAIN, 1), first, call, *look)
        self.assertEqual(found[2], [answer], call[:12])
        self.assertEqual(found[:2] + found[3:], plain)

    def granted(self, call, length):
        found = ask(begin(PLAIN), call)[1]
        self.assertEqual((found[0], len(found)), (0, length + 1))

    def test_n(self):
        self.granted(ticks(0), 0)
        self.granted(ticks(4096), 4096)
        self.refused(ticks(4097), -2)
        self.refused(ticks(4294967295), -2)
        self.assertEqual(ask(begin(PLAIN), ticks(0), ticks(4096), ticks(1), now())[3:], [[0, 0], [0, 4097, 0]])

    def test_how_many_events(self):
        self.granted(ticks(1, [(0, 2)] * 4096), 1)
        self.refused(ticks(1, [(0, 2)] * 4097), -2)
        self.refused(ticks(1, [(9, 200)] * 4097), -2)

    def test_how_many_orders(self):
        self.granted(ticks(1, [], [(0, 2, 0, 0)] * 4096), 1)
        self.refused(ticks(1, [], [(0, 2, 0, 0)] * 4097), -2)
        self.refused(ticks(1, [], [(9, 9, 9, 9)] * 4097), -2)

    def test_too_many_is_told_before_not_right(self):
        self.refused(ticks(4097, [(4096, 128)], [(0, 6, 0, 0)]), -2)

    def test_ticks_of_events(self):
        self.granted(ticks(4, [(0, 0), (0, 127), (3, 64), (3, 63)]), 4)
        self.refused(ticks(4, [(4, 0)]), -1)
        self.refused(ticks(4, [(4294967295, 0)]), -1)
        self.refused(ticks(4, [(2, 0), (1, 0)]), -1)
        self.refused(ticks(4, [(0, 0), (3, 0), (2, 0), (3, 0)]), -1)
        self.refused(ticks(0, [(0, 0)]), -1)

    def test_events(self):
        self.refused(ticks(4, [(0, 128)]), -1)
        self.refused(ticks(4, [(0, 0), (1, 4294967295)]), -1)

    def test_ticks_of_orders(self):
        go = (2, 0, 0)
        self.granted(ticks(4, [], [(0,) + go, (0,) + go, (3,) + go]), 4)
        self.refused(ticks(4, [], [(4,) + go]), -1)
        self.refused(ticks(4, [], [(4294967295,) + go]), -1)
        self.refused(ticks(4, [], [(2,) + go, (1,) + go]), -1)
        self.refused(ticks(0, [], [(0,) + go]), -1)

    def test_kinds_of_orders(self):
        self.refused(ticks(1, [], [(0, 6, 0, 0)]), -1)
        self.refused(ticks(1, [], [(0, 4294967295, 0, 0)]), -1)

    def test_coils_of_orders(self):
        for kind, length in ((0, 1), (1, 1), (2, 0), (3, 0)):
            self.granted(ticks(1, [], [(0, kind, 31, length)]), 1)
            for place in (1, 29, 32, 64, 4294967295):
                self.refused(ticks(1, [], [(0, kind, place, length)]), -1)
        for kind in (4, 5):
            self.granted(ticks(1, [], [(0, kind, 0, 0)]), 1)
            self.refused(ticks(1, [], [(0, kind, 3, 0)]), -1)
            self.refused(ticks(1, [], [(0, kind, 1, 0)]), -1)

    def test_coil_0_of_stop_all_and_kicks_need_not_be_there(self):
        text = PLAIN.replace("coil post at 0", "coil post at 1")
        found = ask(begin(text), ticks(1, [], [(0, 4, 0, 0), (0, 5, 0, 1)]), ticks(1, [], [(0, 3, 0, 0)]))
        self.assertEqual(found[1:], [[0, 0], [-1]])

    def test_ticks_of_pulses(self):
        for kind, place, most in ((0, 0, 5), (0, 3, 4), (1, 3, 4), (0, 31, 1023), (1, 31, 1023)):
            self.granted(ticks(1, [], [(0, kind, place, 1)]), 1)
            self.granted(ticks(1, [], [(0, kind, place, most)]), 1)
            for length in (0, most + 1, 4294967295):
                self.refused(ticks(1, [], [(0, kind, place, length)]), -1)

    def test_a_hold_of_a_coil_without_one(self):
        self.refused(ticks(1, [], [(0, 1, 0, 1)]), -1)
        self.refused(ticks(1, [], [(0, 1, 30, 1)]), -1)

    def test_ticks_of_other_orders(self):
        for kind in (2, 3, 4):
            self.refused(ticks(1, [], [(0, kind, 0, 1)]), -1)
        self.granted(ticks(1, [], [(0, 5, 0, 1)]), 1)
        self.refused(ticks(1, [], [(0, 5, 0, 2)]), -1)

    def test_the_last_of_many_is_looked_at(self):
        self.refused(ticks(2, [], [(0, 4, 0, 0), (1, 5, 0, 0), (1, 0, 0, 6)]), -1)
        self.refused(ticks(2, [(0, 0), (1, 1), (1, 128)], [(0, 4, 0, 0)]), -1)


if __name__ == "__main__":
    unittest.main()
