"""The faults that a table's text can have."""

NOT_ENDED = 1
WRONG_BYTE = 2
WRONG_WORD = 3
WRONG_FORM = 4
NOT_NEW = 5
UNKNOWN = 6
CLASHING = 7
FEW_DRAINS = 8


class Fault(Exception):
    """A text's first fault: its kind (1 to 8) and its place, counted from 0."""

    def __init__(self, kind, place):
        self.kind = kind
        self.place = place
