"""One kick: a coil that follows switches by itself."""

from coilticks.coils import BY_KICK, NOBODY, PULSED

OPENED = 64


class Kick:
    """Its switches are kept by their places; `second` is None where there's none."""

    def __init__(self, first, coil, length, second):
        self.first = first
        self.coil = coil
        self.length = length
        self.second = second

    def take_event(self, event, tick):
        if event == self.first:
            self.coil.ask(self.length, tick, True, BY_KICK if self.coil.hold > 0 else NOBODY)
        if event == self.second and self.coil.way == PULSED and self.coil.kicked:
            self.coil.end_pulse()
        if event == OPENED + self.first:
            self.coil.let_go()
