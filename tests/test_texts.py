"""Right texts: each kind of line in its short and long form, and the bounds of every number and name."""

import unittest

from helper import LINES, RIGHT, begin, joined, run, stands, table_of

SWITCHES = [f"switch s{place} at {place} close 1 open 1" for place in range(64)]
COILS = [f"coil x{place} at {place} most 255 rest 1" for place in range(32)]
NAME = "abcdefghijkl"
DRAINED = ["device trough by x0 holds s0 drain"]


def text_with(*lines):
    """A right table with all places of switches and coils taken, and these lines of devices and kicks."""
    return joined(["table t balls 1"] + SWITCHES + COILS + DRAINED + list(lines))


class Texts(unittest.TestCase):
    def assert_right(self, text):
        self.assertEqual(run(begin(text)), [[0]], text)

    def assert_fault(self, text, kind, place):
        self.assertEqual(run(begin(text)), [[-6, kind, place]], text)

    def assert_bounds(self, before, after, low, high):
        """The number between these two is right just from low to high."""
        for number in (low, low + 1, high - 1, high):
            with self.subTest(before=before, number=number):
                self.assert_right(before + str(number) + after)
        # Python's own int takes no word of some thousand digits.
        for word in (str(low - 1), str(high + 1), str(high) + "0", "9" * 20, "9" * 5000):
            with self.subTest(before=before, number=word[:30]):
                self.assert_fault(before + word + after, 4, len(before))


class Lines(Texts):
    def test_all(self):
        self.assert_right(RIGHT)

    def test_short_and_long_form_of_each_sort(self):
        short = ["table t balls 1", "switch a at 0 close 1 open 1", "switch b at 1 close 1 open 1", "lamp l at 0",
                 "coil x at 0 most 1 rest 1", "coil y at 1 most 1 rest 1", "device d by x holds a drain"]
        self.assert_right(joined(short))
        for line in ("kick b y for 1", "kick b y for 1 till a", "device e by y holds b", "device e by y holds b drain"):
            self.assert_right(joined(short + [line]))
        for number, more in ((1, " turned"), (2, " turned"), (4, " hold 1"), (5, " hold 15")):
            longer = list(short)
            longer[number] += more
            self.assert_right(joined(longer))

    def test_none_of_lamps_and_kicks(self):
        self.assert_right(table_of())

    def test_first_line_alone_lacks_drains_only(self):
        self.assert_fault("table t balls 1\n", 8, 16)

    def test_switches_alone_lack_drains_only(self):
        text = joined(LINES[:5])
        self.assert_fault(text, 8, len(text))

    def test_devices_hold_one_to_eight(self):
        for count in range(1, 9):
            names = " ".join(f"s{place}" for place in range(10, 10 + count))
            self.assert_right(text_with(f"device d by x1 holds {names}"))
            self.assert_right(text_with(f"device d by x1 holds {names} drain"))

    def test_eight_devices_and_eight_kicks(self):
        devices = [f"device d{k} by x{k} holds s{k}" for k in range(1, 8)]
        kicks = [f"kick s{k} x{k} for 255" for k in range(8, 16)]
        self.assert_right(text_with(*devices, *kicks))

    def test_places_need_not_follow_at_once(self):
        self.assert_right(table_of("p at 1 close 1 open 1", "q at 40 close 1 open 1", "r at 41 close 1 open 1"))


class Numbers(Texts):
    def test_balls(self):
        holds = " ".join(f"s{place}" for place in range(8))
        rest = joined(SWITCHES[:8] + COILS[:1] + [f"device d by x0 holds {holds} drain"])
        self.assert_bounds("table t balls ", "\n" + rest, 1, 8)

    def test_switch(self):
        head = "table t balls 1\n"
        tail = joined(COILS[:1] + ["device d by x0 holds s drain"])
        self.assert_bounds(head + "switch s at ", " close 1 open 1\n" + tail, 0, 63)
        self.assert_bounds(head + "switch s at 0 close ", " open 1\n" + tail, 1, 31)
        self.assert_bounds(head + "switch s at 0 close 1 open ", "\n" + tail, 1, 31)
        self.assert_bounds(head + "switch s at 0 close 1 open ", " turned\n" + tail, 1, 31)

    def test_lamp(self):
        head = joined(["table t balls 1"] + SWITCHES[:1])
        self.assert_bounds(head + "lamp l at ", "\n" + joined(COILS[:1] + DRAINED), 0, 63)

    def test_coil(self):
        head = joined(["table t balls 1"] + SWITCHES[:1])
        tail = joined(DRAINED)
        self.assert_bounds(head + "coil x0 at ", " most 1 rest 1\n" + tail, 0, 31)
        self.assert_bounds(head + "coil x0 at 0 most ", " rest 1\n" + tail, 1, 1023)
        self.assert_bounds(head + "coil x0 at 0 most 1 rest ", "\n" + tail, 1, 4095)
        self.assert_bounds(head + "coil x0 at 0 most 1 rest ", " hold 1\n" + tail, 1, 4095)
        self.assert_bounds(head + "coil x0 at 0 most 1 rest 1 hold ", "\n" + tail, 1, 15)

    def test_kick(self):
        self.assert_bounds(text_with() + "kick s1 x1 for ", "\n", 1, 255)
        self.assert_bounds(text_with() + "kick s1 x1 for ", " till s2\n", 1, 255)

    def test_form(self):
        before, after = "table t balls 1\nswitch s at ", " close 1 open 1\n"
        for word in ("00", "01", "007", "+1", "-1", "-0", "1.", "1e1", "0x1", "1_0", "1a", "a", "at", "/", ":", "~1"):
            with self.subTest(word=word):
                self.assert_fault(before + word + after, 4, len(before))

    def test_value_is_the_one_told(self):
        for place in (0, 9, 10, 19, 20, 63):
            text = joined(["table t balls 1", f"switch s at {place} close 1 open 1"] + COILS[:1]
                          + ["device d by x0 holds s drain"])
            found = run(begin(text), *[stands(other) for other in range(64)])[1:]
            self.assertEqual([other for other in range(64) if found[other] != [-4]], [place])


class Names(Texts):
    RIGHT_NAMES = ("a", "z", "a0", "a9", "a_", "z_0_9", "az09_", NAME, "a___________", "table", "switch", "at", "by")
    WRONG_NAMES = ("A", "0", "9a", "_", "_a", "aB", "a-b", "a.", "a/", "a:", "a@", "a[", "a`", "a{", "`a", "{a",
                   "a^", "a~", "!", NAME + "m", "a" * 300)

    def assert_names(self, before, after, also_right=()):
        for name in self.RIGHT_NAMES + tuple(also_right):
            with self.subTest(before=before, name=name):
                self.assert_right(before + name + after.replace("NAME", name))
        for name in self.WRONG_NAMES:
            with self.subTest(before=before, name=name):
                self.assert_fault(before + name + after.replace("NAME", name), 4, len(before))

    def test_new_names(self):
        self.assert_names("table ", " balls 1\n" + RIGHT[RIGHT.index("\n") + 1:], ["drain", "loop", "a", "t"])
        head = joined(["table t balls 1"])
        self.assert_names(head + "switch ", " at 0 close 1 open 1\n" + joined(COILS[:1])
                          + "device d by x0 holds NAME drain\n", ["loop", "t"])
        head += joined(SWITCHES[:2])
        self.assert_names(head + "lamp ", " at 0\n" + joined(COILS[:1] + DRAINED), ["drain", "s0", "t"])
        self.assert_names(head + "coil ", " at 0 most 1 rest 1\ndevice d by NAME holds s0 drain\n",
                          ["drain", "loop", "s0", "t"])
        self.assert_names(head + joined(COILS[:1]) + "device ", " by x0 holds s0 drain\n",
                          ["drain", "loop", "s0", "x0", "t"])

    def test_names_that_no_switch_and_no_lamp_has(self):
        head = joined(["table t balls 1"])
        self.assert_fault(head + "switch drain at 0 close 1 open 1\n", 4, len(head) + 7)
        self.assert_fault(head + "lamp loop at 0\n", 4, len(head) + 5)

    def test_sorts_may_share_names(self):
        lines = ["table a balls 1", "switch a at 0 close 1 open 1", "switch b at 1 close 1 open 1", "lamp a at 0",
                 "lamp b at 1", "coil a at 0 most 1 rest 1", "coil b at 1 most 1 rest 1", "device a by b holds a drain",
                 "kick b a for 1"]
        self.assert_right(joined(lines))


if __name__ == "__main__":
    unittest.main()
