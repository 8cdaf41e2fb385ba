"""The calls on one table's switches, and their answers."""

from bouncetable.faults import Fault
from bouncetable.matrix import Matrix
from bouncetable.tables import LAST_PLACE, read_table

BEGIN = 1
ROWS = 2
SOON = 3
STANDS = 4
TICK = 5

DONE = 0
NO_SUCH_PLACE = -1
TOO_LONG = -2
NO_SWITCH = -4
FAULTY = -6
NOTHING_BEGUN = -10

MOST_BYTES = 16384
MOST_ROWS = 65536


class Bench:
    """The one object that all calls are for; its matrix is None until a table is begun."""

    def __init__(self):
        self.matrix = None

    def begin(self, text):
        """Begins the table that text tells, in place of what was."""
        if len(text) > MOST_BYTES:
            return [TOO_LONG]
        try:
            table = read_table(text)
        except Fault as fault:
            return [FAULTY, fault.kind, fault.place]
        self.matrix = Matrix(table)
        return [DONE]

    def rows(self, given):
        """Takes the given rows, and tells their events."""
        if len(given) > MOST_ROWS:
            return [TOO_LONG]
        told = []
        for number, row in enumerate(given):
            for event in self.matrix.take_row(row):
                told.append(number)
                told.append(event)
        return [DONE, len(told) // 2] + told

    def refusal(self, place):
        """Why nothing can be told of a place; DONE if something can."""
        if place > LAST_PLACE:
            return NO_SUCH_PLACE
        return DONE if place in self.matrix.switch_at else NO_SWITCH

    def soon(self, place):
        """Tells how many ticks it takes at least until the switch at place is told the other way."""
        refusal = self.refusal(place)
        if refusal != DONE:
            return [refusal]
        return [DONE, self.matrix.ticks_until_told(self.matrix.switch_at[place])]

    def stands(self, place):
        """Tells as what the switch at place is taken, and how many samples in a row were the other way."""
        refusal = self.refusal(place)
        if refusal != DONE:
            return [refusal]
        switch = self.matrix.switch_at[place]
        return [DONE, switch.taken, switch.seen]

    def tick(self):
        """Tells how many rows there were."""
        return [DONE, self.matrix.ticks]


def length_of_call(calls, start):
    """How many numbers the call that begins at start has."""
    if calls[start] == TICK:
        return 1
    if calls[start] == SOON or calls[start] == STANDS:
        return 2
    return 2 + calls[start + 1]


def answer(bench, call):
    """What one call answers."""
    if call[0] == BEGIN:
        return bench.begin(call[2:])
    if bench.matrix is None:
        return [NOTHING_BEGUN]
    if call[0] == ROWS:
        return bench.rows(call[2:])
    if call[0] == SOON:
        return bench.soon(call[1])
    if call[0] == STANDS:
        return bench.stands(call[1])
    return bench.tick()


def answers(calls):
    """What the calls on a new object answer: of each how many numbers, then these."""
    bench = Bench()
    told = []
    start = 0
    while start < len(calls):
        behind = start + length_of_call(calls, start)
        numbers = answer(bench, calls[start:behind])
        told.append(len(numbers))
        told.extend(numbers)
        start = behind
    return told
