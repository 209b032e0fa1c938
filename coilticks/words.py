"""The words of one line of a table's text."""

from coilticks.faults import Fault, NOT_KNOWN, NOT_NEW, WRONG_FORM, WRONG_WORD

BLANK = 32
DIGIT_ZERO = 48
DIGIT_NINE = 57
LETTER_A = 97
LETTER_Z = 122
UNDERLINE = 95
LONGEST_NAME = 12


def spelled(word):
    """A word as its bytes: the program's own words are met in this form alone."""
    return tuple([ord(sign) for sign in word])


def is_digit(byte):
    return DIGIT_ZERO <= byte <= DIGIT_NINE


def is_letter(byte):
    return LETTER_A <= byte <= LETTER_Z


def is_name(word):
    if len(word) > LONGEST_NAME or not is_letter(word[0]):
        return False
    return all([is_letter(byte) or is_digit(byte) or byte == UNDERLINE for byte in word])


def is_number(word):
    if len(word) > 1 and word[0] == DIGIT_ZERO:
        return False
    return all([is_digit(byte) for byte in word])


def number_of(word):
    number = 0
    for byte in word:
        number = number * 10 + byte - DIGIT_ZERO
    return number


class Words:
    """A line whose words are taken from left to right; a fault is told at the word taken last."""

    def __init__(self, text, start, end):
        self.text = text
        self.at = start
        self.end = end
        self.place = start

    def more(self):
        return self.at < self.end

    def take(self):
        if not self.more():
            raise Fault(WRONG_WORD, self.end)
        self.place = self.at
        behind = self.at
        while behind < self.end and self.text[behind] != BLANK:
            behind += 1
        self.at = behind + 1
        return tuple(self.text[self.place:behind])

    def check(self, right, kind):
        if not right:
            raise Fault(kind, self.place)

    def take_fixed(self, word):
        self.check(self.take() == spelled(word), WRONG_WORD)

    def take_number(self, least, most):
        word = self.take()
        self.check(is_number(word), WRONG_FORM)
        number = number_of(word)
        self.check(least <= number <= most, WRONG_FORM)
        return number

    def take_place(self, most, before):
        place = self.take_number(0, most)
        self.check(place > before, NOT_NEW)
        return place

    def take_name(self):
        name = self.take()
        self.check(is_name(name), WRONG_FORM)
        return name

    def take_new_name(self, names, barred):
        name = self.take_name()
        self.check(name != spelled(barred), WRONG_FORM)
        self.check(name not in names, NOT_NEW)
        return name

    def take_known_name(self, names):
        name = self.take()
        self.check_known(name, names)
        return name

    def check_known(self, word, names):
        self.check(is_name(word), WRONG_FORM)
        self.check(word in names, NOT_KNOWN)

    def check_ended(self):
        if self.more():
            raise Fault(WRONG_WORD, self.at)
