"""Events and orders as they are handed in, and whether they are right."""

EVENT_WIDTH = 2
ORDER_WIDTH = 4
EVENTS = 128

PULSE = 0
PULSE_AND_HOLD = 1
LET_GO = 2
STOP = 3
STOP_ALL = 4
SET_KICKS = 5


def by_tick(row, width):
    """For each tick that has any, its events or orders in their order, less the tick's number."""
    groups = {}
    for at in range(0, len(row), width):
        groups.setdefault(row[at], []).append(row[at + 1:at + width])
    return groups


def are_ticks_right(row, width, n):
    before = 0
    for at in range(0, len(row), width):
        if row[at] < before or row[at] >= n:
            return False
        before = row[at]
    return True


def are_events_right(events, n):
    if not are_ticks_right(events, EVENT_WIDTH, n):
        return False
    return all([events[at + 1] < EVENTS for at in range(0, len(events), EVENT_WIDTH)])


def are_orders_right(orders, n, coils):
    if not are_ticks_right(orders, ORDER_WIDTH, n):
        return False
    for at in range(0, len(orders), ORDER_WIDTH):
        if not is_order_right(coils, orders[at + 1], orders[at + 2], orders[at + 3]):
            return False
    return True


def is_order_right(coils, kind, place, length):
    if kind == STOP_ALL:
        return place == 0 and length == 0
    if kind == SET_KICKS:
        return place == 0 and length <= 1
    if kind > SET_KICKS or place not in coils:
        return False
    if kind == PULSE:
        return 1 <= length <= coils[place].most
    if kind == PULSE_AND_HOLD:
        return coils[place].hold > 0 and 1 <= length <= coils[place].most
    return length == 0
