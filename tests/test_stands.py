import unittest

from tests.helpers import KICKS, PLAIN, ROW, ask, begin, now, soon, stands, ticks

ON = (0, 5, 0, 1)


class Places(unittest.TestCase):
    def test_refusals(self):
        for call in (soon, stands):
            found = ask(begin(PLAIN), *[call(p) for p in (0, 1, 2, 29, 31, 32, 33, 4294967295)])
            self.assertEqual(found[1:], [[0, 0] + [0] * (call == stands), [-4], [-4], [-4],
                                         [0, 0] + [0] * (call == stands), [-1], [-1], [-1]])

    def test_place_31_without_a_coil(self):
        self.assertEqual(ask(begin(ROW), soon(31), stands(31), soon(32), stands(32))[1:], [[-4], [-4], [-1], [-1]])


class Ways(unittest.TestCase):
    def told(self, text, run, place, standing, soonest, supply=32):
        found = ask(begin(text, supply), run, stands(place), soon(place), stands(place))
        self.assertEqual(found[2:], [[0] + standing, soonest, [0] + standing])

    def test_free(self):
        self.told(PLAIN, ticks(0), 0, [0, 0], [0, 0])
        self.told(PLAIN, ticks(9, [], [(0, 0, 0, 2)]), 0, [0, 0], [0, 0])

    def test_resting(self):
        # Pulsed in 0 and 1, resting in 2, 3 and 4.
        for n, left in ((2, 3), (3, 2), (4, 1), (5, 0)):
            self.told(PLAIN, ticks(n, [], [(0, 0, 0, 2)]), 0, [0, left], [0, left])
        self.told(PLAIN, ticks(1, [], [(0, 0, 31, 1)]), 31, [0, 4095], [0, 4095])

    def test_resting_behind_a_stop(self):
        # The tick of the stop is the first one of the rest.
        self.told(PLAIN, ticks(3, [], [(0, 0, 0, 5), (2, 3, 0, 0)]), 0, [0, 2], [0, 2])
        self.told(PLAIN, ticks(3, [], [(0, 1, 3, 1), (2, 2, 3, 0)]), 3, [0, 1], [0, 1])
        self.told(PLAIN, ticks(1, [], [(0, 0, 30, 5), (0, 3, 30, 0)]), 30, [0, 0], [0, 0])

    def test_soon_is_when_a_pulse_can_begin(self):
        for n in range(2, 8):
            first = ticks(n, [], [(0, 0, 0, 2)])
            told = ask(begin(PLAIN), first, soon(0))[2][1]
            self.assertEqual(told, max(0, 5 - n))
            then = ask(begin(PLAIN), first, ticks(9, [], [(0, 0, 0, 1)]))[2][1:]
            self.assertEqual(then.index(1), told)

    def test_pulsed(self):
        self.told(PLAIN, ticks(1, [], [(0, 0, 0, 5)]), 0, [1, 4, 0, 0], [-3])
        self.told(PLAIN, ticks(4, [], [(0, 0, 0, 5)]), 0, [1, 1, 0, 0], [-3])
        self.told(PLAIN, ticks(1, [], [(0, 1, 3, 4)]), 3, [1, 3, 0, 1], [-3])
        self.told(KICKS, ticks(2, [(1, 2)], [ON]), 0, [1, 3, 1, 2], [-3])
        self.told(KICKS, ticks(2, [(1, 7)], [ON]), 4, [1, 2, 1, 0], [-3])

    def test_pulsed_and_let_go(self):
        self.told(PLAIN, ticks(2, [], [(0, 1, 3, 4), (1, 2, 3, 0)]), 3, [1, 2, 0, 0], [-3])
        self.told(KICKS, ticks(3, [(1, 2), (2, 66)], [ON]), 0, [1, 2, 1, 0], [-3])

    def test_held(self):
        # Held from 1 on, on in 3 and 6.
        for n, before in ((1, 2), (2, 1), (3, 0), (4, 2), (5, 1), (6, 0), (7, 2)):
            self.told(PLAIN, ticks(n, [], [(0, 1, 3, 1)]), 3, [2, 1, before], [-3])
        self.told(KICKS, ticks(5, [(1, 2)], [ON]), 0, [2, 2, 2], [-3])
        self.told(PLAIN, ticks(1, [], [(0, 1, 31, 1)]), 31, [2, 1, 15], [-3])

    def test_a_pulse_waits_for_a_rest(self):
        # Pulsed in 0, resting in 1, 2 and 3.
        self.told(PLAIN, ticks(2, [], [(0, 0, 0, 1), (1, 0, 0, 5)]), 0, [3, 2, 5, 1, 0, 0], [-3])
        self.told(PLAIN, ticks(4, [], [(0, 0, 0, 1), (1, 0, 0, 5)]), 0, [3, 0, 5, 1, 0, 0], [-3])
        self.told(PLAIN, ticks(5, [], [(0, 0, 0, 1), (1, 0, 0, 5)]), 0, [1, 4, 0, 0], [-3])
        self.told(PLAIN, ticks(2, [], [(0, 0, 3, 1), (1, 1, 3, 4)]), 3, [3, 1, 4, 1, 0, 1], [-3])

    def test_a_pulse_waits_for_the_supply(self):
        orders = [(0, 0, 0, 5), (1, 0, 2, 3), (2, 1, 1, 2)]
        self.told(ROW, ticks(3, [], orders), 2, [3, 0, 3, 1, 0, 0], [-3], 1)
        self.told(ROW, ticks(3, [], orders), 1, [3, 0, 2, 2, 0, 1], [-3], 1)

    def test_a_pulse_of_a_kick_waits(self):
        self.told(KICKS, ticks(3, [(1, 2), (2, 7), (2, 10)], [ON]), 4, [3, 0, 3, 2, 1, 0], [-3], 1)
        self.told(KICKS, ticks(3, [(1, 2), (2, 7), (2, 10)], [ON]), 12, [3, 0, 5, 2, 1, 2], [-3], 1)

    def test_since_counts_all_ticks_that_have_passed(self):
        found = ask(begin(PLAIN), ticks(100), ticks(3, [], [(0, 0, 0, 1), (2, 0, 0, 5)]), stands(0), now())
        self.assertEqual(found[3:], [[0, 3, 1, 5, 102, 0, 0], [0, 103, 0]])

    def test_whose_a_pulse_is_is_told_anew(self):
        # A kick's pulse first, then an order's; then the other way round.
        found = ask(begin(KICKS), ticks(2, [(1, 2)], [ON]), stands(0), ticks(9, [(0, 66)]),
                    ticks(1, [], [(0, 0, 0, 9)]), stands(0), ticks(20), ticks(1, [(0, 2)]), stands(0))
        self.assertEqual([found[2], found[5], found[8]], [[0, 1, 3, 1, 2], [0, 1, 8, 0, 0], [0, 1, 3, 1, 2]])


class Now(unittest.TestCase):
    def test_ticks_passed(self):
        found = ask(begin(PLAIN), now(), ticks(0), now(), ticks(1), now(), ticks(4096), now())
        self.assertEqual(found[1::2], [[0, 0, 0], [0, 0, 0], [0, 1, 0], [0, 4097, 0]])

    def test_kicks_of_a_table_that_has_none(self):
        self.assertEqual(ask(begin(PLAIN), ticks(1, [], [ON]), now())[2], [0, 1, 1])


if __name__ == "__main__":
    unittest.main()
