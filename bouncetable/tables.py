"""Tables, and how they are read from a text."""

from bouncetable.faults import CLASHING, FEW_DRAINS, Fault, NOT_NEW, UNKNOWN, WRONG_FORM, WRONG_WORD
from bouncetable.lines import line_at

SORTS = ("switch", "lamp", "coil", "device", "kick")

MOST_BALLS = 8
LAST_PLACE = 63
LAST_COIL_PLACE = 31
MOST_SAMPLES = 31
MOST_ON = 1023
MOST_REST = 4095
MOST_HOLD = 15
MOST_DEVICES = 8
MOST_HELD = 8
MOST_KICKS = 8
MOST_SPAN = 255

# Behind a device's switches `drain` has a meaning of its own, so no switch bears that name.
NO_SWITCH_NAME = "drain"
NO_LAMP_NAME = "loop"


class Table:
    """What has been read of a table.

    balls are those it plays with, drained those its drains hold, kicks how many there are. By name: of a switch its
    place, close, open and whether it is turned; the lamps; of a coil its most; the devices; held, the switches that
    stand in a device; serving, the coils that serve a device or a kick. By sort: reached, the place told last.
    """

    def __init__(self):
        self.balls = 0
        self.drained = 0
        self.kicks = 0
        self.switches = {}
        self.lamps = {}
        self.coils = {}
        self.devices = {}
        self.held = {}
        self.serving = {}
        self.reached = {}


def take_new_name(line, known, barred=""):
    """A name that isn't known yet; the barred one is none."""
    name = line.take_name()
    line.refuse_if(name == barred, WRONG_FORM)
    line.refuse_if(name in known, NOT_NEW)
    return name


def take_known_name(line, known):
    """A name that stands before."""
    name = line.take_name()
    line.refuse_if(name not in known, UNKNOWN)
    return name


def reach(table, line, sort, place):
    """Sees to it that the places of a sort rise."""
    line.refuse_if(place <= table.reached.get(sort, -1), NOT_NEW)
    table.reached[sort] = place


def take_place(table, line, sort, last):
    """A place up to last, above the one before of its sort."""
    line.take_fixed("at")
    place = line.take_number(0, last)
    reach(table, line, sort, place)
    return place


def take_free_coil(table, line):
    """The name of a coil that serves nothing yet, and does from now on."""
    coil = take_known_name(line, table.coils)
    line.refuse_if(coil in table.serving, CLASHING)
    table.serving[coil] = True
    return coil


def hold_switch(table, line):
    """Puts a switch that stands in no device yet into one."""
    switch = take_known_name(line, table.switches)
    line.refuse_if(switch in table.held, CLASHING)
    table.held[switch] = True


def read_head(table, line):
    """Reads the first line."""
    line.take_fixed("table")
    line.take_name()
    line.take_fixed("balls")
    table.balls = line.take_number(1, MOST_BALLS)


def read_switch(table, line):
    """Reads what follows `switch`."""
    name = take_new_name(line, table.switches, NO_SWITCH_NAME)
    place = take_place(table, line, "switch", LAST_PLACE)
    line.take_fixed("close")
    closing = line.take_number(1, MOST_SAMPLES)
    line.take_fixed("open")
    opening = line.take_number(1, MOST_SAMPLES)
    table.switches[name] = (place, closing, opening, line.take_if("turned"))


def read_lamp(table, line):
    """Reads what follows `lamp`."""
    name = take_new_name(line, table.lamps, NO_LAMP_NAME)
    take_place(table, line, "lamp", LAST_PLACE)
    table.lamps[name] = True


def read_coil(table, line):
    """Reads what follows `coil`."""
    name = take_new_name(line, table.coils)
    take_place(table, line, "coil", LAST_COIL_PLACE)
    line.take_fixed("most")
    most = line.take_number(1, MOST_ON)
    line.take_fixed("rest")
    line.take_number(1, MOST_REST)
    if line.take_if("hold"):
        line.take_number(1, MOST_HOLD)
    table.coils[name] = most


def read_device(table, line):
    """Reads what follows `device`."""
    name = take_new_name(line, table.devices)
    line.take_fixed("by")
    take_free_coil(table, line)
    line.take_fixed("holds")
    hold_switch(table, line)
    holds = 1
    while holds < MOST_HELD and line.more() and not line.comes("drain"):
        hold_switch(table, line)
        holds += 1
    if line.take_if("drain"):
        table.drained += holds
    table.devices[name] = True


def read_kick(table, line):
    """Reads what follows `kick`."""
    first = take_known_name(line, table.switches)
    reach(table, line, "kick", table.switches[first][0])
    line.refuse_if(first in table.held, CLASHING)
    coil = take_free_coil(table, line)
    line.take_fixed("for")
    span = line.take_number(1, MOST_SPAN)
    line.refuse_if(span > table.coils[coil], CLASHING)
    if line.take_if("till"):
        second = take_known_name(line, table.switches)
        line.refuse_if(second == first, CLASHING)
    table.kicks += 1


def take_sort(table, line, earlier):
    """The sort of a line, which can't stand before the earlier line's in their order."""
    sort = line.take()
    line.refuse_if(sort not in SORTS, WRONG_WORD)
    line.refuse_if(SORTS.index(sort) < SORTS.index(earlier), WRONG_WORD)
    line.refuse_if(sort == "device" and len(table.devices) == MOST_DEVICES, WRONG_WORD)
    line.refuse_if(sort == "kick" and table.kicks == MOST_KICKS, WRONG_WORD)
    return sort


def read_rest(table, line, sort):
    """Reads what follows a line's first word."""
    if sort == "switch":
        read_switch(table, line)
    elif sort == "lamp":
        read_lamp(table, line)
    elif sort == "coil":
        read_coil(table, line)
    elif sort == "device":
        read_device(table, line)
    else:
        read_kick(table, line)


def read_table(text):
    """The table that a text tells; its first fault is raised."""
    table = Table()
    line = line_at(text, 0)
    read_head(table, line)
    line.finish()
    sort = SORTS[0]
    while line.end + 1 < len(text):
        line = line_at(text, line.end + 1)
        sort = take_sort(table, line, sort)
        read_rest(table, line, sort)
        line.finish()
    if table.drained < table.balls:
        raise Fault(FEW_DRAINS, len(text))
    return table
