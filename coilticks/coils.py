"""One coil: how it stands, and what may be done to it."""

RESTING = 0
PULSED = 1
HELD = 2
WAITING = 3

NOBODY = 0
BY_ORDER = 1
BY_KICK = 2


class Coil:
    """A coil is resting, pulsed or held, and `left` counts down for each of these:
    a rest's ticks left (none: the coil is free), a pulse's ticks left, or the ticks
    before the one in which a held coil is on."""

    def __init__(self, place, most, rest, hold):
        self.place = place
        self.power = 1 << place
        self.most = most
        self.rest = rest
        # 0: the coil can't be held.
        self.hold = hold
        self.way = RESTING
        self.left = 0
        # How many ticks the pulse has that waits; 0: none waits.
        self.waiting = 0
        self.since = 0
        # Of the pulse that waits or is under way: there's never more than one.
        self.kicked = False
        self.keeper = NOBODY

    def is_idle(self):
        return self.way == RESTING and self.waiting == 0

    def ask(self, length, tick, kicked, keeper):
        if not self.is_idle():
            return
        self.waiting = length
        self.since = tick
        self.kicked = kicked
        self.keeper = keeper

    def begin_pulse(self):
        self.way = PULSED
        self.left = self.waiting
        self.waiting = 0

    def end_pulse(self):
        if self.keeper == NOBODY:
            self.begin_rest()
        else:
            self.way = HELD
            self.left = self.hold

    def begin_rest(self):
        self.way = RESTING
        self.left = self.rest

    def let_go(self):
        self.waiting = 0
        self.keeper = NOBODY
        if self.way == HELD:
            self.begin_rest()

    def cut_off(self):
        self.let_go()
        if self.way == PULSED:
            self.begin_rest()

    def pass_tick(self):
        """One tick passes: whether the coil is on in it."""
        if self.way == PULSED:
            self.left -= 1
            if self.left == 0:
                self.end_pulse()
            return True
        if self.left > 0:
            self.left -= 1
            return False
        if self.way == HELD:
            self.left = self.hold
            return True
        return False

    def standing(self):
        if self.way == PULSED:
            return [PULSED, self.left, int(self.kicked), self.keeper]
        if self.way == HELD:
            return [HELD, self.keeper, self.left]
        if self.waiting > 0:
            return [WAITING, self.left, self.waiting, self.since, int(self.kicked), self.keeper]
        return [RESTING, self.left]
