"""The faults that a table's text may have."""

NOT_ENDED = 1
WRONG_BYTE = 2
WRONG_WORD = 3
WRONG_FORM = 4
NOT_NEW = 5
NOT_KNOWN = 6
NOT_FREE = 7
FEW_DRAINS = 8


class Fault(ValueError):
    """The first fault of a text: its kind and its place."""

    def __init__(self, kind, place):
        ValueError.__init__(self, kind, place)
        self.kind = kind
        self.place = place
