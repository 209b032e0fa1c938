"""Calls written plainly, and answers split up again."""

from coilticks.desk import answers


def text_bytes(text):
    return list(text.encode("latin-1")) if isinstance(text, str) else list(text)


def begin(text, supply=32):
    row = text_bytes(text)
    return [1, supply, len(row)] + row


def ticks(n, events=(), orders=()):
    """events: (tick, event) each; orders: (tick, kind, coil, ticks) each."""
    flat_events = [number for event in events for number in event]
    flat_orders = [number for order in orders for number in order]
    return [2, n, len(flat_events)] + flat_events + [len(flat_orders)] + flat_orders


def soon(p):
    return [3, p]


def stands(p):
    return [4, p]


def now():
    return [5]


def split(row):
    found = []
    at = 0
    while at < len(row):
        found.append(row[at + 1:at + 1 + row[at]])
        at += 1 + row[at]
    return found


def ask(*calls):
    """What each call is answered."""
    row = [number for call in calls for number in call]
    if len(calls) > 200 or len(row) > 30000:
        raise AssertionError("more calls or numbers than may be handed in")
    found = split(answers(row))
    if len(found) != len(calls):
        raise AssertionError("as many answers as calls are asked for")
    return found


def on_ticks(answer, place):
    """The ticks in which the coil at a place is on, of an answer of ticks."""
    if answer[0] != 0:
        raise AssertionError(f"refused: {answer}")
    return [tick for tick, on in enumerate(answer[1:]) if on >> place & 1]


# No kicks; the coils 0 and 30 without a hold, 3 and 31 with one.
PLAIN = """table plain balls 1
switch trough at 9 close 1 open 1
coil post at 0 most 5 rest 3
coil gate at 3 most 4 rest 2 hold 2
coil out at 30 most 9 rest 1
coil top at 31 most 1023 rest 4095 hold 15
device trough by out holds trough drain
"""

# Eight coils that differ in their places alone.
ROW = """table row balls 1
switch trough at 9 close 1 open 1
coil c0 at 0 most 5 rest 3 hold 1
coil c1 at 1 most 5 rest 3 hold 1
coil c2 at 2 most 5 rest 3 hold 1
coil c3 at 3 most 5 rest 3 hold 1
coil c4 at 4 most 5 rest 3 hold 1
coil c5 at 5 most 5 rest 3 hold 1
coil c6 at 6 most 5 rest 3 hold 1
coil c7 at 7 most 5 rest 3 hold 1
device trough by c7 holds trough drain
"""

# Events: 2 and 66 the left button, 10 and 74 the right one, 7 the sling, 3 the end of both strokes.
KICKS = """table kicks balls 1
switch left at 2 close 1 open 1
switch stroke at 3 close 1 open 1
switch sling at 7 close 1 open 1
switch trough at 9 close 1 open 1
switch right at 10 close 1 open 1
coil flip at 0 most 20 rest 3 hold 2
coil sling at 4 most 6 rest 5
coil out at 9 most 5 rest 5
coil flop at 12 most 20 rest 2 hold 1
device trough by out holds trough drain
kick left flip for 4 till stroke
kick sling sling for 3
kick right flop for 5 till stroke
"""
