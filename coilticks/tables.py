"""A table, read from its text."""

from coilticks.coils import Coil
from coilticks.faults import FEW_DRAINS, Fault, NOT_ENDED, NOT_FREE, NOT_NEW, WRONG_BYTE, WRONG_WORD
from coilticks.kicks import Kick
from coilticks.words import BLANK, Words, spelled

LINE_END = 10
LAST_SIGN = 126
FIRST_SORT = ("table",)
LATER_SORTS = ("switch", "lamp", "coil", "device", "kick")
NOT_BARRED = ""
MOST_DEVICES = 8
MOST_KICKS = 8
MOST_SWITCHES_HELD = 8


class Table:
    """What the lines gone through so far have told."""

    def __init__(self):
        self.sorts = FIRST_SORT
        self.balls = 0
        self.drained = 0
        self.switches = {}
        self.lamps = {}
        self.coils = {}
        self.devices = {}
        self.kicks = []
        self.last_switch = -1
        self.last_lamp = -1
        self.last_coil = -1
        self.last_kick = -1
        # Which switches stand in a device, which coils a device or a kick has.
        self.housed = {}
        self.served = {}


def read_table(text):
    """The table that a text tells, or the text's first fault, raised."""
    if len(text) == 0:
        raise Fault(NOT_ENDED, 0)
    table = Table()
    start = 0
    while start < len(text):
        end = find_line_end(text, start)
        check_bytes(text, start, end)
        read_line(table, Words(text, start, end))
        start = end + 1
    if table.drained < table.balls:
        raise Fault(FEW_DRAINS, len(text))
    return table


def find_line_end(text, start):
    end = start
    while end < len(text) and text[end] != LINE_END:
        end += 1
    if end == len(text):
        raise Fault(NOT_ENDED, end)
    return end


def check_bytes(text, start, end):
    for place in range(start, end):
        if text[place] < BLANK or text[place] > LAST_SIGN:
            raise Fault(WRONG_BYTE, place)
        if text[place] == BLANK and is_stray_blank(text, start, end, place):
            raise Fault(WRONG_BYTE, place)


def is_stray_blank(text, start, end, place):
    return place == start or place + 1 == end or text[place - 1] == BLANK


def read_line(table, words):
    sort = take_sort(table, words)
    if sort == "table":
        read_head(table, words)
    elif sort == "switch":
        read_switch(table, words)
    elif sort == "lamp":
        read_lamp(table, words)
    elif sort == "coil":
        read_coil(table, words)
    elif sort == "device":
        read_device(table, words)
    else:
        read_kick(table, words)
    words.check_ended()


def take_sort(table, words):
    """The line's sort; from then on only this sort and the ones behind it can come."""
    word = words.take()
    found = [sort for sort in table.sorts if spelled(sort) == word]
    words.check(len(found) == 1, WRONG_WORD)
    sort = found[0]
    words.check(sort != "device" or len(table.devices) < MOST_DEVICES, WRONG_WORD)
    words.check(sort != "kick" or len(table.kicks) < MOST_KICKS, WRONG_WORD)
    if sort == "table":
        table.sorts = LATER_SORTS
    else:
        table.sorts = LATER_SORTS[LATER_SORTS.index(sort):]
    return sort


def read_head(table, words):
    words.take_name()
    words.take_fixed("balls")
    table.balls = words.take_number(1, 8)


def read_switch(table, words):
    name = words.take_new_name(table.switches, "drain")
    words.take_fixed("at")
    place = words.take_place(63, table.last_switch)
    words.take_fixed("close")
    words.take_number(1, 31)
    words.take_fixed("open")
    words.take_number(1, 31)
    if words.more():
        words.take_fixed("turned")
    table.switches[name] = place
    table.last_switch = place


def read_lamp(table, words):
    name = words.take_new_name(table.lamps, "loop")
    words.take_fixed("at")
    place = words.take_place(63, table.last_lamp)
    table.lamps[name] = place
    table.last_lamp = place


def read_coil(table, words):
    name = words.take_new_name(table.coils, NOT_BARRED)
    words.take_fixed("at")
    place = words.take_place(31, table.last_coil)
    words.take_fixed("most")
    most = words.take_number(1, 1023)
    words.take_fixed("rest")
    rest = words.take_number(1, 4095)
    hold = 0
    if words.more():
        words.take_fixed("hold")
        hold = words.take_number(1, 15)
    table.coils[name] = Coil(place, most, rest, hold)
    table.last_coil = place


def read_device(table, words):
    name = words.take_new_name(table.devices, NOT_BARRED)
    words.take_fixed("by")
    take_free_coil(table, words)
    words.take_fixed("holds")
    read_switches_held(table, words)
    table.devices[name] = True


def take_free_coil(table, words):
    name = words.take_known_name(table.coils)
    words.check(name not in table.served, NOT_FREE)
    table.served[name] = True
    return table.coils[name]


def read_switches_held(table, words):
    # The first word has to be a switch: there, `drain` is a name that isn't known.
    house_switch(table, words, words.take())
    many = 1
    while words.more():
        word = words.take()
        if word == spelled("drain"):
            table.drained += many
            return
        words.check(many < MOST_SWITCHES_HELD, WRONG_WORD)
        house_switch(table, words, word)
        many += 1


def house_switch(table, words, word):
    words.check_known(word, table.switches)
    words.check(word not in table.housed, NOT_FREE)
    table.housed[word] = True


def read_kick(table, words):
    name = words.take_known_name(table.switches)
    first = table.switches[name]
    words.check(first > table.last_kick, NOT_NEW)
    words.check(name not in table.housed, NOT_FREE)
    coil = take_free_coil(table, words)
    words.take_fixed("for")
    length = words.take_number(1, 255)
    words.check(length <= coil.most, NOT_FREE)
    second = None
    if words.more():
        words.take_fixed("till")
        second = table.switches[words.take_known_name(table.switches)]
        words.check(second != first, NOT_FREE)
    table.kicks.append(Kick(first, coil, length, second))
    table.last_kick = first
