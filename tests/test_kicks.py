import unittest

from tests.helpers import KICKS, ask, begin, now, on_ticks, stands, ticks

ON = (0, 5, 0, 1)
FLIP, SLING, FLOP = 0, 4, 12


def run(n, events, orders=(), text=KICKS, supply=32):
    return ask(begin(text, supply), ticks(n, events, [ON] + list(orders)))[1]


class OnAndOff(unittest.TestCase):
    def test_off_at_first(self):
        self.assertEqual(ask(begin(KICKS), ticks(3, [(0, 2), (1, 7), (2, 10)])), [[0], [0, 0, 0, 0]])

    def test_on_behind_the_events_of_its_tick(self):
        self.assertEqual(on_ticks(run(9, [(0, 7)]), SLING), [])
        self.assertEqual(on_ticks(run(9, [(1, 7)]), SLING), [1, 2, 3])

    def test_off_behind_the_events_of_its_tick(self):
        # In 1 the kick asks for a pulse, and its coil is let go in the same tick.
        self.assertEqual(on_ticks(run(9, [(1, 7)], [(1, 5, 0, 0)]), SLING), [])
        self.assertEqual(on_ticks(run(9, [(2, 7)], [(1, 5, 0, 0)]), SLING), [])

    def test_off_lets_the_coils_of_all_kicks_go(self):
        found = run(20, [(1, 2), (1, 7), (1, 10)], [(3, 5, 0, 0)])
        self.assertEqual(on_ticks(found, FLIP), [1, 2, 3, 4])
        self.assertEqual(on_ticks(found, SLING), [1, 2, 3])
        self.assertEqual(on_ticks(found, FLOP), [1, 2, 3, 4, 5])
        found = run(20, [(1, 2), (1, 10)], [(10, 5, 0, 0)])
        self.assertEqual(on_ticks(found, FLIP), [1, 2, 3, 4, 7])
        self.assertEqual(on_ticks(found, FLOP), [1, 2, 3, 4, 5, 7, 9])

    def test_off_while_off_lets_go_too(self):
        orders = [(0, 1, FLIP, 1), (5, 5, 0, 0)]
        self.assertEqual(on_ticks(ask(begin(KICKS), ticks(20, [], orders))[1], FLIP), [0, 3])

    def test_off_leaves_other_coils_alone(self):
        self.assertEqual(on_ticks(run(9, [], [(0, 0, 9, 4), (1, 5, 0, 0)]), 9), [0, 1, 2, 3])

    def test_on_while_on_lets_nothing_go(self):
        self.assertEqual(on_ticks(run(9, [(1, 2)], [(6, 5, 0, 1)]), FLIP), [1, 2, 3, 4, 7])

    def test_now_tells_it(self):
        found = ask(begin(KICKS), ticks(1, [], [ON]), now(), ticks(2), now(), ticks(1, [], [(0, 5, 0, 0)]), now(),
                    ticks(1, [], [(0, 5, 0, 0), (0, 5, 0, 1)]), now(), ticks(1, [], [ON, (0, 5, 0, 0)]), now())
        self.assertEqual(found[2::2], [[0, 1, 1], [0, 3, 1], [0, 4, 0], [0, 5, 1], [0, 6, 0]])


class FirstSwitch(unittest.TestCase):
    def test_without_a_hold(self):
        self.assertEqual(on_ticks(run(20, [(1, 7)]), SLING), [1, 2, 3])

    def test_with_a_hold(self):
        self.assertEqual(on_ticks(run(12, [(1, 2)]), FLIP), [1, 2, 3, 4, 7, 10])

    def test_each_kick_has_its_own(self):
        found = run(12, [(1, 10)])
        self.assertEqual((on_ticks(found, FLIP), on_ticks(found, FLOP)), ([], [1, 2, 3, 4, 5, 7, 9, 11]))

    def test_while_pulsed_held_or_waiting(self):
        self.assertEqual(on_ticks(run(12, [(1, 2), (2, 2), (6, 2)]), FLIP), [1, 2, 3, 4, 7, 10])
        # Resting in 4 to 8: what's asked for in 5 waits, what's asked for in 6 does nothing.
        self.assertEqual(on_ticks(run(20, [(1, 7), (5, 7), (6, 7)]), SLING), [1, 2, 3, 9, 10, 11])

    def test_opening_lets_go(self):
        self.assertEqual(on_ticks(run(20, [(1, 2), (7, 66)]), FLIP), [1, 2, 3, 4])
        self.assertEqual(on_ticks(run(20, [(1, 2), (8, 66), (8, 2)]), FLIP)[:8], [1, 2, 3, 4, 7, 11, 12, 13])

    def test_opening_while_pulsed(self):
        self.assertEqual(on_ticks(run(20, [(1, 2), (2, 66)]), FLIP), [1, 2, 3, 4])
        # The hold was given up with the opening, closing again doesn't bring it back.
        self.assertEqual(on_ticks(run(20, [(1, 2), (2, 66), (3, 2)]), FLIP), [1, 2, 3, 4])

    def test_opening_drops_what_waits(self):
        self.assertEqual(run(4, [(1, 2), (1, 66)]), [0, 0, 0, 0, 0])
        self.assertEqual(on_ticks(run(20, [(1, 7), (5, 7), (6, 71)]), SLING), [1, 2, 3])

    def test_events_in_their_order(self):
        self.assertEqual(on_ticks(run(4, [(1, 66), (1, 2)]), FLIP), [1, 2, 3])

    def test_opening_lets_go_what_an_order_holds(self):
        self.assertEqual(on_ticks(run(20, [(5, 66)], [(0, 1, FLIP, 1)]), FLIP), [0, 3])

    def test_events_before_orders(self):
        found = ask(begin(KICKS), ticks(2, [(1, 2)], [ON, (1, 0, FLIP, 20)]), stands(FLIP))
        self.assertEqual(found[2], [0, 1, 3, 1, 2])
        self.assertEqual(on_ticks(run(4, [(1, 2)], [(1, 3, FLIP, 0)]), FLIP), [])

    def test_opening_while_off_does_nothing(self):
        found = ask(begin(KICKS), ticks(9, [(2, 66)], [(0, 1, FLIP, 1)]))[1]
        self.assertEqual(on_ticks(found, FLIP), [0, 3, 6])


class SecondSwitch(unittest.TestCase):
    def test_held_in_this_tick_already(self):
        # Held from 3 on: on in 5.
        self.assertEqual(on_ticks(run(10, [(1, 2), (3, 3)]), FLIP), [1, 2, 5, 8])
        found = ask(begin(KICKS), ticks(4, [(1, 2), (3, 3)], [ON]), stands(FLIP))
        self.assertEqual(found[2], [0, 2, 2, 1])

    def test_rests_in_this_tick_already(self):
        # Resting in 3, 4 and 5.
        events = [(1, 2), (2, 66), (3, 3), (3, 2)]
        self.assertEqual(on_ticks(run(8, events), FLIP), [1, 2, 6, 7])
        found = ask(begin(KICKS), ticks(4, events[:3], [ON]), stands(FLIP))
        self.assertEqual(found[2], [0, 0, 2])

    def test_of_each_kick_that_has_it(self):
        found = run(7, [(1, 2), (1, 10), (3, 3)])
        self.assertEqual((on_ticks(found, FLIP), on_ticks(found, FLOP)), ([1, 2, 5], [1, 2, 4, 6]))

    def test_opening_of_it_does_nothing(self):
        self.assertEqual(on_ticks(run(9, [(1, 2), (3, 67)]), FLIP), [1, 2, 3, 4, 7])

    def test_a_pulse_of_an_order_goes_on(self):
        self.assertEqual(on_ticks(run(9, [(2, 3)], [(0, 0, FLIP, 5)]), FLIP), [0, 1, 2, 3, 4])

    def test_while_off_it_does_nothing(self):
        self.assertEqual(on_ticks(run(9, [(1, 2), (3, 3)], [(2, 5, 0, 0)]), FLIP), [1, 2, 3, 4])

    def test_a_pulse_that_waits_goes_on_waiting(self):
        self.assertEqual(on_ticks(run(9, [(1, 2), (1, 3)]), FLIP), [1, 2, 3, 4, 7])

    def test_held_and_resting_coils_stay(self):
        self.assertEqual(on_ticks(run(12, [(1, 2), (6, 3)]), FLIP), [1, 2, 3, 4, 7, 10])
        self.assertEqual(on_ticks(run(9, [(1, 2), (2, 66), (6, 3), (6, 2)]), FLIP), [1, 2, 3, 4, 8])

    def test_room_for_others_at_once(self):
        found = run(6, [(1, 2), (2, 7), (3, 3)], supply=1)
        self.assertEqual((on_ticks(found, FLIP), on_ticks(found, SLING)), ([1, 2, 5], [3, 4, 5]))

    def test_a_second_switch_that_is_another_kicks_first(self):
        text = KICKS.replace("kick right flop for 5 till stroke", "kick right flop for 5 till left")
        found = run(9, [(1, 10), (3, 2)], text=text)
        self.assertEqual((on_ticks(found, FLIP), on_ticks(found, FLOP)), ([3, 4, 5, 6], [1, 2, 4, 6, 8]))


class OtherEvents(unittest.TestCase):
    def test_they_do_nothing(self):
        others = [event for event in range(128) if event not in (2, 7, 10)]
        self.assertEqual(run(2, [(1, event) for event in others]), [0, 0, 0])


if __name__ == "__main__":
    unittest.main()
