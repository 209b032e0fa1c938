"""The calls on one object, and what they answer."""

from coilticks.board import Board
from coilticks.faults import Fault
from coilticks.rows import EVENT_WIDTH, ORDER_WIDTH, are_events_right, are_orders_right
from coilticks.tables import read_table

BEGIN = 1
TICKS = 2
SOON = 3
STANDS = 4

DONE = 0
NOT_RIGHT = -1
TOO_MANY = -2
NOT_IDLE = -3
NO_COIL = -4
FAULTY = -6
NOT_BEGUN = -10

MOST_BYTES = 16384
MOST_SUPPLY = 32
MOST_TICKS = 4096
MOST_ROWS = 4096
LAST_COIL = 31


class Desk:
    """One object; its board is None while nothing is begun."""

    def __init__(self):
        self.board = None

    def begin(self, text, supply):
        if len(text) > MOST_BYTES:
            return [TOO_MANY]
        try:
            table = read_table(text)
        except Fault as fault:
            return [FAULTY, fault.kind, fault.place]
        if supply < 1 or supply > MOST_SUPPLY:
            return [NOT_RIGHT]
        self.board = Board(table, supply)
        return [DONE]

    def ticks(self, n, events, orders):
        if self.board is None:
            return [NOT_BEGUN]
        if n > MOST_TICKS or len(events) > MOST_ROWS * EVENT_WIDTH or len(orders) > MOST_ROWS * ORDER_WIDTH:
            return [TOO_MANY]
        if not are_events_right(events, n) or not are_orders_right(orders, n, self.board.coils):
            return [NOT_RIGHT]
        return [DONE] + self.board.run(n, events, orders)

    def soon(self, place):
        refusal = self.refuse_place(place)
        if refusal != DONE:
            return [refusal]
        coil = self.board.coils[place]
        if not coil.is_idle():
            return [NOT_IDLE]
        return [DONE, coil.left]

    def stands(self, place):
        refusal = self.refuse_place(place)
        if refusal != DONE:
            return [refusal]
        return [DONE] + self.board.coils[place].standing()

    def now(self):
        if self.board is None:
            return [NOT_BEGUN]
        return [DONE, self.board.passed, int(self.board.kicking)]

    def refuse_place(self, place):
        """Why a coil's place is refused; DONE where it isn't."""
        if self.board is None:
            return NOT_BEGUN
        if place > LAST_COIL:
            return NOT_RIGHT
        if place not in self.board.coils:
            return NO_COIL
        return DONE


class Reader:
    """The list of calls, read number by number."""

    def __init__(self, calls):
        self.calls = calls
        self.at = 0

    def more(self):
        return self.at < len(self.calls)

    def read_number(self):
        number = self.calls[self.at]
        self.at += 1
        return number

    def read_row(self):
        many = self.read_number()
        row = self.calls[self.at:self.at + many]
        self.at += many
        return row


def answer_call(desk, reader):
    call = reader.read_number()
    if call == BEGIN:
        supply = reader.read_number()
        return desk.begin(reader.read_row(), supply)
    if call == TICKS:
        n = reader.read_number()
        events = reader.read_row()
        return desk.ticks(n, events, reader.read_row())
    if call == SOON:
        return desk.soon(reader.read_number())
    if call == STANDS:
        return desk.stands(reader.read_number())
    return desk.now()


def answers(calls):
    """For each call, in order, how many numbers are answered, then these."""
    desk = Desk()
    reader = Reader(calls)
    answered = []
    while reader.more():
        answer = answer_call(desk, reader)
        answered.append(len(answer))
        answered.extend(answer)
    return answered
