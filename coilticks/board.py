"""A table at work: its coils, its kicks and the ticks that have passed."""

from coilticks.coils import BY_ORDER, NOBODY, PULSED
from coilticks.rows import EVENT_WIDTH, LET_GO, ORDER_WIDTH, PULSE, PULSE_AND_HOLD, SET_KICKS, STOP, STOP_ALL, by_tick


def turn_of(coil):
    """Where a coil comes among those whose pulses wait."""
    return (coil.since, coil.place)


class Board:
    """The coils are kept by their places; the table that was read isn't used again."""

    def __init__(self, table, supply):
        self.supply = supply
        self.coils = {}
        for coil in table.coils.values():
            self.coils[coil.place] = coil
        self.kicks = table.kicks
        self.kicking = False
        self.passed = 0

    def run(self, n, events, orders):
        """For each of n ticks, the sum of what's on; events and orders have to be right."""
        events_of = by_tick(events, EVENT_WIDTH)
        orders_of = by_tick(orders, ORDER_WIDTH)
        sums = []
        for tick in range(n):
            for event in events_of.get(tick, []):
                self.take_event(event[0])
            for order in orders_of.get(tick, []):
                self.take_order(order[0], order[1], order[2])
            self.begin_waiting()
            sums.append(self.pass_tick())
        return sums

    def take_event(self, event):
        if not self.kicking:
            return
        for kick in self.kicks:
            kick.take_event(event, self.passed)

    def take_order(self, kind, place, length):
        if kind == PULSE:
            self.coils[place].ask(length, self.passed, False, NOBODY)
        elif kind == PULSE_AND_HOLD:
            self.coils[place].ask(length, self.passed, False, BY_ORDER)
        elif kind == LET_GO:
            self.coils[place].let_go()
        elif kind == STOP:
            self.coils[place].cut_off()
        elif kind == STOP_ALL:
            self.stop_all()
        elif kind == SET_KICKS:
            self.set_kicks(length == 1)

    def stop_all(self):
        for coil in self.coils.values():
            coil.cut_off()

    def set_kicks(self, kicking):
        self.kicking = kicking
        if not kicking:
            for kick in self.kicks:
                kick.coil.let_go()

    def begin_waiting(self):
        ready = [coil for coil in self.coils.values() if coil.waiting > 0 and coil.left == 0]
        if len(ready) == 0:
            return
        pulsed = [coil for coil in self.coils.values() if coil.way == PULSED]
        for coil in sorted(ready, key=turn_of)[:self.supply - len(pulsed)]:
            coil.begin_pulse()

    def pass_tick(self):
        """One tick passes: the sum of what's on in it."""
        on = 0
        for coil in self.coils.values():
            if coil.pass_tick():
                on += coil.power
        self.passed += 1
        return on
