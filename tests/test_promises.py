"""C1 to C6, over runs that are drawn by a fixed seed and looked at tick by tick."""

import random
import unittest

from tests.helpers import PLAIN, ROW, ask, begin, now, soon, stands, ticks

# place: (most, rest, hold), hold 0 where there's none.
COILS = {0: (6, 4, 1), 2: (3, 2, 0), 3: (8, 9, 3), 7: (5, 1, 2),
         8: (1, 1, 1), 15: (4, 3, 0), 30: (7, 12, 0), 31: (9, 5, 15)}
BUSY = "\n".join(
    ["table busy balls 1"]
    + [f"switch s{p} at {p} close 1 open 1" for p in range(8)]
    + [f"coil c{p} at {p} most {most} rest {rest}" + (f" hold {hold}" if hold else "")
       for p, (most, rest, hold) in COILS.items()]
    + ["device d by c15 holds s7 drain", "kick s0 c0 for 5 till s4", "kick s1 c2 for 3 till s4",
       "kick s2 c31 for 9 till s0", "kick s3 c8 for 1"]) + "\n"


def drawn_order(draw, tick):
    kind = draw.choice((0, 0, 0, 0, 1, 1, 1, 2, 2, 3, 4, 5, 5))
    if kind == 4 and draw.random() < 0.7:
        kind = 0
    if kind == 4:
        return (tick, 4, 0, 0)
    if kind == 5:
        return (tick, 5, 0, draw.choice((0, 1, 1, 1)))
    place = draw.choice([p for p in COILS if kind != 1 or COILS[p][2]])
    return (tick, kind, place, draw.randint(1, COILS[place][0]) if kind < 2 else 0)


def drawn_run(seed, n=160):
    """supply, events and orders of n ticks."""
    draw = random.Random(seed)
    often = draw.choice((0.2, 0.5, 0.9))
    events, orders = [], [(0, 5, 0, 1)]
    for tick in range(n):
        while draw.random() < often / 2:
            events.append((tick, draw.choice((0, 1, 2, 3, 4, 64, 65, 66, 67, 68, 9, 127))))
        while draw.random() < often:
            orders.append(drawn_order(draw, tick))
    return draw.randint(1, 4), events, orders


def piece(events, orders, start, end):
    """The call for the ticks from start to end, of a run told as a whole."""
    return ticks(end - start,
                 [(tick - start,) + (event,) for tick, event in events if start <= tick < end],
                 [(order[0] - start,) + order[1:] for order in orders if start <= order[0] < end])


class Look:
    """One tick: how the coils stand before it and behind it, and which are on in it."""

    def __init__(self, before, on, behind):
        self.before = before
        self.behind = behind
        self.on = [place for place in COILS if on >> place & 1]
        self.pulsed = [place for place in self.on if before[place][0] != 2]
        self.begun = [place for place in self.pulsed if before[place][0] != 1]
        # These may begin in this tick: free, and a pulse is asked for in it or before.
        self.free = [place for place in COILS if before[place][0] in (0, 3) and before[place][1] == 0]


def looks(seed, n=160, step=20):
    """supply, and a look at each tick; a list of calls bears no more than step of them."""
    supply, events, orders = drawn_run(seed, n)
    look = [stands(place) for place in COILS]
    run = []
    for start in range(0, n, step):
        calls = list(look)
        for tick in range(start, start + step):
            calls += [piece(events, orders, tick, tick + 1)] + look
        found = ask(begin(BUSY, supply), piece(events, orders, 0, start), *calls)[2:]
        states = [dict(zip(COILS, [answer[1:] for answer in found[k * 9:k * 9 + 8]])) for k in range(step + 1)]
        run += [Look(states[k], found[k * 9 + 8][1], states[k + 1]) for k in range(step)]
    return supply, run


RUNS = [looks(seed) for seed in range(60)]


class Promises(unittest.TestCase):
    def test_the_runs_drawn_meet_each_way(self):
        ways = {look.behind[place][0] for supply, run in RUNS for look in run for place in COILS}
        self.assertEqual(ways, {0, 1, 2, 3})
        self.assertTrue(any(look.behind[place][0] == 3 and look.behind[place][1] == 0
                            for supply, run in RUNS for look in run for place in COILS))

    def test_c1_on_in_a_row(self):
        longest = dict.fromkeys(COILS, 0)
        for supply, run in RUNS:
            row = dict.fromkeys(COILS, 0)
            for look in run:
                for place in COILS:
                    row[place] = row[place] + 1 if place in look.on else 0
                    longest[place] = max(longest[place], row[place])
        for place, (most, rest, hold) in COILS.items():
            self.assertLessEqual(longest[place], most)
        self.assertEqual(longest[8], 1)

    def test_c1_a_hold_behind_the_longest_pulse(self):
        found = ask(begin(ROW), ticks(60, [], [(0, 1, 0, 5)]))[1][1:]
        self.assertEqual(found[:9], [1, 1, 1, 1, 1, 0, 1, 0, 1])

    def test_c2_rests(self):
        shortest = {}
        for supply, run in RUNS:
            last = {}
            for tick, look in enumerate(run):
                for place in look.begun:
                    if place in last:
                        gap = tick - last[place] - 1
                        shortest[place] = min(gap, shortest.get(place, gap))
                for place in COILS:
                    if place in look.pulsed or look.behind[place][0] == 2:
                        last[place] = tick
        # As soon as may be: the rest is kept, and no more than it.
        self.assertEqual(shortest, {place: rest for place, (most, rest, hold) in COILS.items()})

    def test_c3_supply(self):
        for supply, run in RUNS:
            self.assertLessEqual(max(len(look.pulsed) for look in run), supply)
        self.assertEqual({supply for supply, run in RUNS}, {1, 2, 3, 4})
        reached = {supply for supply, run in RUNS if max(len(look.pulsed) for look in run) == supply}
        self.assertEqual(reached, {1, 2, 3, 4})

    def test_c4_the_one_that_waits_longest_first(self):
        for supply, run in RUNS:
            for tick, look in enumerate(run):
                turns = [(look.behind[p][3], p) for p in look.free if look.behind[p][0] == 3]
                begun = [(look.before[p][3] if look.before[p][0] == 3 else tick, p) for p in look.begun]
                if turns:
                    self.assertEqual(len(look.pulsed), supply)
                if turns and begun:
                    self.assertLess(max(begun), min(turns))

    def test_c4_begins_once_or_is_dropped(self):
        # What waits goes on waiting as it is, or begins, or an order or an event dropped it.
        orders = [(0, 0, 0, 2), (0, 0, 1, 2), (0, 0, 2, 2), (0, 0, 3, 2), (1, 2, 2, 0), (1, 3, 3, 0)]
        found = ask(begin(ROW, 1), ticks(4096, [], orders))[1][1:]
        self.assertEqual([on for on in found if on], [1, 1, 2, 2])

    def test_c4_nothing_is_lost(self):
        for supply in (1, 2, 3, 8):
            orders = [(0, 0, place, place % 5 + 1) for place in range(8)]
            found = ask(begin(ROW, supply), ticks(60, [], orders))[1][1:]
            self.assertEqual([sum(on >> place & 1 for on in found) for place in range(8)], [1, 2, 3, 4, 5, 1, 2, 3])

    def test_c5_in_pieces(self):
        for seed in range(60):
            supply, events, orders = drawn_run(seed)
            look = [stands(place) for place in COILS] + [soon(place) for place in COILS] + [now()]
            whole = ask(begin(BUSY, supply), piece(events, orders, 0, 160), *look)
            cuts = sorted(random.Random(seed).choices(range(161), k=seed % 7 + 1))
            edges = list(zip([0] + cuts, cuts + [160]))
            pieces = ask(begin(BUSY, supply), *[piece(events, orders, a, b) for a, b in edges], *look)
            parts = pieces[1:1 + len(edges)]
            self.assertEqual([part[0] for part in parts], [0] * len(edges))
            self.assertEqual([on for part in parts for on in part[1:]], whole[1][1:])
            self.assertEqual(pieces[1 + len(edges):], whole[2:])

    def test_c5_tick_by_tick(self):
        for seed, (supply, run) in enumerate(RUNS):
            supply, events, orders = drawn_run(seed)
            whole = ask(begin(BUSY, supply), piece(events, orders, 0, 160))[1][1:]
            self.assertEqual([sum(2 ** place for place in look.on) for look in run], whole)
            single = ask(begin(BUSY, supply), *[piece(events, orders, tick, tick + 1) for tick in range(160)])
            self.assertEqual([answer[1] for answer in single[1:]], whole)

    def test_c6_refused_nothing_is_changed(self):
        refused = [begin(""), begin(BUSY, 0), begin(BUSY, 33), begin("x" * 16385), begin(PLAIN[:-1]), ticks(4097),
                   ticks(9, [(0, 0), (9, 0)]), ticks(9, [(0, 128)]), ticks(2, [(0, 0)], [(0, 4, 0, 0), (1, 6, 0, 0)]),
                   ticks(2, [], [(0, 5, 0, 0), (1, 0, 0, 7)]), soon(32), soon(1), stands(32), stands(1)]
        look = [stands(place) for place in COILS] + [now()]
        for seed in range(20):
            supply, events, orders = drawn_run(seed)
            halves = [piece(events, orders, 0, 70), piece(events, orders, 70, 160)]
            plain = ask(begin(BUSY, supply), halves[0], *look, halves[1], *look)
            found = ask(begin(BUSY, supply), halves[0], *refused, *look, halves[1], *look)
            self.assertTrue(all(answer[0] < 0 for answer in found[2:2 + len(refused)]))
            self.assertEqual(found[:2] + found[2 + len(refused):], plain)


if __name__ == "__main__":
    unittest.main()
