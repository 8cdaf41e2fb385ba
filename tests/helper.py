"""What the tests share: calls as lists of numbers, answers one by one, and a right table."""

from bouncetable.switches import answers

TICK = [5]

LINES = (
    "table t balls 1",
    "switch a at 0 close 1 open 1",
    "switch b at 9 close 2 open 3 turned",
    "switch c at 10 close 3 open 2",
    "switch d at 63 close 31 open 31",
    "lamp l at 5",
    "lamp m at 6",
    "coil x at 1 most 10 rest 20",
    "coil y at 2 most 255 rest 20 hold 4",
    "coil z at 3 most 300 rest 20",
    "device trough by x holds a drain",
    "kick b y for 10 till c",
)


def joined(lines):
    """The text of these lines."""
    return "".join(line + "\n" for line in lines)


RIGHT = joined(LINES)


def table_of(*switches):
    """A right table with these switches (the words behind `switch`) among which the one at 0 is the drain's."""
    lines = ["table t balls 1", "switch drained at 0 close 1 open 1"]
    lines += ["switch " + switch for switch in switches]
    lines += ["coil x at 0 most 1 rest 1", "device trough by x holds drained drain"]
    return joined(lines)


def begin(text):
    numbers = list(text.encode("latin-1"))
    return [1, len(numbers)] + numbers


def rows(given):
    return [2, len(given)] + list(given)


def soon(place):
    return [3, place]


def stands(place):
    return [4, place]


def run(*calls):
    """What each of the calls on one new object answers, as a list of lists."""
    numbers = answers([number for call in calls for number in call])
    split = []
    start = 0
    while start < len(numbers):
        behind = start + 1 + numbers[start]
        split.append(numbers[start + 1:behind])
        start = behind
    if start != len(numbers) or len(split) != len(calls):
        raise AssertionError(f"not one answer a call: {numbers}")
    return split


def row_bytes(contacts, ticks):
    """So many rows, in which just these places are closed all the time."""
    columns = [sum(1 << (place % 8) for place in contacts if place // 8 == column) for column in range(8)]
    return [columns[tick % 8] for tick in range(ticks)]


def samples_of(place, contacts):
    """Rows from tick 0 on whose samples of one place are these contacts, one a round of eight ticks."""
    given = []
    for contact in contacts:
        given += [contact << (place % 8) if column == place // 8 else 0 for column in range(8)]
    return given


def pairs(answer):
    """The events of an answer of rows: of each its row and itself."""
    if answer[0] != 0 or len(answer) != 2 + 2 * answer[1]:
        raise AssertionError(f"not an answer of rows: {answer}")
    return list(zip(answer[2::2], answer[3::2]))
