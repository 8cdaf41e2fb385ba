"""The matrix of contacts: what its rows say of the switches."""

COLUMNS = 8
OPENED = 64


class Switch:
    """One switch: as what it is taken (1 closed, 0 open), and how many samples in a row were the other way."""

    def __init__(self, place, closing, opening, turned):
        self.place = place
        self.closing = closing
        self.opening = opening
        self.turned = turned
        self.taken = 0
        self.seen = 0

    def lacking(self):
        """How many samples the other way it takes from now on until it is taken so."""
        wanted = self.closing if self.taken == 0 else self.opening
        return wanted - self.seen

    def turn_by(self, row):
        """Takes its sample from a row of its column, and tells whether it is taken the other way by it."""
        sample = (row >> (self.place % COLUMNS)) & 1
        if self.turned:
            sample = 1 - sample
        if sample == self.taken:
            self.seen = 0
            return False
        self.seen += 1
        if self.lacking() > 0:
            return False
        self.taken = sample
        self.seen = 0
        return True

    def event(self):
        """The event that it was taken as it is now."""
        return self.place if self.taken == 1 else OPENED + self.place


class Matrix:
    """The switches of a table by place and by column, and how many rows there were."""

    def __init__(self, table):
        self.ticks = 0
        self.switch_at = {}
        self.columns = [[] for column in range(COLUMNS)]
        for place, closing, opening, turned in table.switches.values():
            switch = Switch(place, closing, opening, turned)
            self.switch_at[place] = switch
            self.columns[place // COLUMNS].append(switch)

    def take_row(self, row):
        """The events of one more row; they rise by place, as the switches of a table do."""
        events = []
        for switch in self.columns[self.ticks % COLUMNS]:
            if switch.turn_by(row):
                events.append(switch.event())
        self.ticks += 1
        return events

    def ticks_until_told(self, switch):
        """How many ticks it takes at least until the switch is told the other way."""
        ticks_before_sample = (switch.place // COLUMNS - self.ticks) % COLUMNS
        return ticks_before_sample + 1 + COLUMNS * (switch.lacking() - 1)
