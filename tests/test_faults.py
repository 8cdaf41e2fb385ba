"""The faults 1 to 8: each of the ways in which they come about, their places, and which one is told."""

import unittest

from helper import LINES, RIGHT, TICK, begin, joined, row_bytes, rows, run, soon, stands

HEAD = LINES[:1]
UP_TO_SWITCHES = LINES[:5]
UP_TO_LAMPS = LINES[:7]
UP_TO_COILS = LINES[:10]
UP_TO_DEVICES = LINES[:11]

# By their numbers: what is left of a line whose long form is cut to its short one.
RIGHT_WHEN_SHORT = {
    2: ("switch b at 9 close 2 open 3",),
    8: ("coil y at 2 most 255 rest 20",),
    10: ("device trough by x holds a",),
    11: ("kick b y for 10",),
}


class Faults(unittest.TestCase):
    def assert_fault(self, kind, marked):
        """The text without its one ^ has a fault of this kind where the ^ stands."""
        place = marked.index("^")
        text = marked.replace("^", "", 1)
        self.assertEqual(run(begin(text)), [[-6, kind, place]], marked)

    def assert_line_faults(self, kind, before, *marked_lines):
        """Each of these lines has its fault, be it the last one or not."""
        for line in marked_lines:
            with self.subTest(line=line):
                self.assert_fault(kind, joined(before) + line + "\n")
                self.assert_fault(kind, joined(before) + line + "\n" + "Other faults \0\n\n")


class Kind1(Faults):
    def test_no_byte(self):
        self.assert_fault(1, "^")

    def test_last_line_not_ended(self):
        for text in ("t^", "table^", "table t balls 1^", "table t balls 1\ns^", RIGHT[:-1] + "^", RIGHT + "k^"):
            self.assert_fault(1, text)

    def test_its_words_and_bytes_are_not_looked_at(self):
        for text in ("Other^", " ^", "\0\1^", "\xff  ^", "table t balls 9 ^", "table t balls 1\nlamp  ^"):
            self.assert_fault(1, text)

    def test_every_cut_of_a_right_text(self):
        enough = len(joined(UP_TO_DEVICES))
        for length in range(len(RIGHT)):
            cut = RIGHT[:length]
            if not cut.endswith("\n"):
                self.assert_fault(1, cut + "^")
            elif length < enough:
                self.assert_fault(8, cut + "^")
            else:
                self.assertEqual(run(begin(cut)), [[0]])


class Kind2(Faults):
    def test_bytes(self):
        for byte in list(range(10)) + list(range(11, 32)) + list(range(127, 256)):
            with self.subTest(byte=byte):
                sign = chr(byte)
                self.assert_fault(2, "^" + sign + "\n")
                self.assert_fault(2, "table t balls 1^" + sign + "\n")
                self.assert_fault(2, "table t balls ^" + sign + "1\n")
                self.assert_fault(2, RIGHT + "kick b^" + sign + "\n")

    def test_all_other_bytes_may_stand_in_a_word(self):
        for byte in range(33, 127):
            self.assertEqual(run(begin("!" + chr(byte) + "\n")), [[-6, 3, 0]])

    def test_blanks(self):
        for text in ("^ \n", "^  \n", "^ table t balls 1\n", "table ^ t balls 1\n", "table ^   t balls 1\n",
                     "table t balls 1^ \n", "table t balls 1 ^ \n", "table^ \n", "table t balls 1\n^ \n",
                     "table t balls 1\n^ switch\n", "table t balls 1\nx ^ \n", RIGHT + "^ \n"):
            with self.subTest(text=text):
                self.assert_fault(2, text)

    def test_every_byte_of_a_right_text_made_wrong(self):
        for place in range(len(RIGHT) - 1):
            for sign in "\0\x1f\x7f\xff":
                self.assert_fault(2, RIGHT[:place] + "^" + sign + RIGHT[place + 1:])

    def test_blank_before_and_behind_every_blank_and_line_end(self):
        for place in range(len(RIGHT)):
            if RIGHT[place] == " ":
                self.assert_fault(2, RIGHT[:place + 1] + "^ " + RIGHT[place + 1:])
            if RIGHT[place] == "\n":
                self.assert_fault(2, RIGHT[:place] + "^ " + RIGHT[place:])
                self.assert_fault(2, RIGHT[:place + 1] + "^ x\n")

    def test_bytes_come_before_words(self):
        self.assert_fault(2, "Other words^\0\n")
        self.assert_fault(2, "table T balls 1^ \n")
        self.assert_fault(2, "table t balls 1\nlamp loop at 99 ^ x\n")

    def test_first_of_several(self):
        self.assert_fault(2, "table ^\0 \1  \n")
        self.assert_fault(2, "table ^ \0\n")
        self.assert_fault(2, "table ^\0\n  \n")


class Kind3(Faults):
    def test_first_word_of_the_first_line(self):
        for text in ("^\n", "^x\n", "^Table t balls 1\n", "^tables t balls 1\n", "^tabl t balls 1\n", "^t\n",
                     "^switch a at 0 close 1 open 1\n", "^~\n", "^\n" + RIGHT):
            self.assert_fault(3, text)

    def test_first_word_of_other_lines(self):
        for count in range(1, len(LINES) + 1):
            self.assert_line_faults(3, LINES[:count], "^table t balls 1", "^x", "^Switch a", "^switches", "^1", "^",
                                    "^drain", "^lam", "^kick1", "^ki-ck")

    def test_sort_that_cannot_come_any_more(self):
        switch, lamp, coil = "switch q at 62 close 1 open 1", "lamp q at 63", "coil q at 31 most 1 rest 1"
        device = "device q by z holds c"
        late = ((UP_TO_LAMPS, switch), (UP_TO_COILS, switch), (UP_TO_DEVICES, switch), (LINES, switch),
                (UP_TO_COILS, lamp), (UP_TO_DEVICES, lamp), (LINES, lamp),
                (UP_TO_DEVICES, coil), (LINES, coil), (LINES, device))
        for before, line in late:
            self.assert_line_faults(3, before, "^" + line)

    def test_ninth_device(self):
        lines = ["table t balls 1"]
        lines += [f"switch s{place} at {place} close 1 open 1" for place in range(9)]
        lines += [f"coil x{place} at {place} most 1 rest 1" for place in range(9)]
        lines += [f"device d{k} by x{k} holds s{k} drain" for k in range(8)]
        self.assertEqual(run(begin(joined(lines))), [[0]])
        self.assert_line_faults(3, lines, "^device d8 by x8 holds s8", "^device", "^device A")
        self.assertEqual(run(begin(joined(lines + ["kick s8 x8 for 1"]))), [[0]])

    def test_ninth_kick(self):
        lines = ["table t balls 1"]
        lines += [f"switch s{place} at {place} close 1 open 1" for place in range(10)]
        lines += [f"coil x{place} at {place} most 1 rest 1" for place in range(10)]
        lines += ["device d by x0 holds s0 drain"]
        lines += [f"kick s{k} x{k} for 1" for k in range(1, 9)]
        self.assertEqual(run(begin(joined(lines))), [[0]])
        self.assert_line_faults(3, lines, "^kick s9 x9 for 1", "^kick", "^kick A")

    def test_fixed_words(self):
        self.assert_line_faults(3, (), "table t ^ball 1", "table t ^1", "table t ^BALLS 1", "table t ^ballss 1")
        self.assert_line_faults(3, HEAD, "switch q ^on 0 close 1 open 1", "switch q at 0 ^open 1 close 1",
                                "switch q at 0 close 1 ^close 1", "switch q at 0 close 1 ^turned", "switch q ^0",
                                "lamp q ^by 0", "coil q ^at0 most 1 rest 1", "coil q at 0 ^rest 1 most 1",
                                "coil q at 0 most 1 ^hold 1", "coil q at 0 most 1 ^Rest 1")
        self.assert_line_faults(3, UP_TO_COILS, "device q ^at x holds a", "device q ^x holds a",
                                "device q by x ^hold a", "device q by x ^a", "device q by x ^drain")
        self.assert_line_faults(3, UP_TO_DEVICES, "kick b y ^till c", "kick b y ^10", "kick b y ^four 1")

    def test_words_behind_the_last(self):
        self.assert_line_faults(3, (), "table t balls 1 ^1", "table t balls 1 ^balls", "table t balls 8 ^x y z")
        self.assert_line_faults(3, HEAD, "switch q at 0 close 1 open 1 ^turn", "switch q at 0 close 1 open 1 ^1",
                                "switch q at 0 close 1 open 1 ^Turned", "switch q at 0 close 1 open 1 turned ^turned",
                                "switch q at 0 close 1 open 1 turned ^x", "lamp q at 0 ^x", "lamp q at 0 ^at 1",
                                "coil q at 0 most 1 rest 1 ^x", "coil q at 0 most 1 rest 1 ^holds 1",
                                "coil q at 0 most 1 rest 1 ^1", "coil q at 0 most 1 rest 1 hold 1 ^hold",
                                "coil q at 0 most 1 rest 1 hold 1 ^1")
        self.assert_line_faults(3, UP_TO_COILS, "device q by x holds a drain ^drain", "device q by x holds a drain ^b",
                                "device q by x holds a b c d drain ^x")
        self.assert_line_faults(3, UP_TO_DEVICES, "kick b y for 10 ^to c", "kick b y for 10 ^c", "kick b y for 10 ^10",
                                "kick b y for 10 till c ^d", "kick b y for 10 till c ^till d")

    def test_words_behind_the_eighth_switch(self):
        lines = ["table t balls 1"]
        lines += [f"switch s{place} at {place} close 1 open 1" for place in range(10)]
        lines += ["coil x at 0 most 1 rest 1"]
        eight = "device d by x holds s0 s1 s2 s3 s4 s5 s6 s7"
        self.assertEqual(run(begin(joined(lines + [eight + " drain"]))), [[0]])
        self.assert_line_faults(3, lines, eight + " ^s8", eight + " ^s0", eight + " ^x", eight + " ^!",
                                eight + " ^drains", eight + " ^nowhere", eight + " drain ^s8", eight + " drain ^drain")

    def test_missing_words(self):
        for number, line in enumerate(LINES):
            words = line.split(" ")
            for count in range(len(words)):
                short = " ".join(words[:count])
                if short in RIGHT_WHEN_SHORT.get(number, ()):
                    continue
                self.assert_line_faults(3, LINES[:number], short + "^")

    def test_missing_behind_words_of_the_long_form(self):
        self.assert_line_faults(3, HEAD, "coil q at 0 most 1 rest 1 hold^")
        self.assert_line_faults(3, UP_TO_DEVICES, "kick b y for 10 till^")

    def test_empty_lines(self):
        for count in range(1, len(LINES) + 1):
            self.assert_line_faults(3, LINES[:count], "^")


class Kind4(Faults):
    def test_no_name_where_one_has_to_stand_before(self):
        self.assert_line_faults(4, UP_TO_COILS, "device q by ^X holds a", "device q by ^1 holds a",
                                "device q by ^abcdefghijklm holds a", "device q by x holds ^A",
                                "device q by x holds ^_a", "device q by x holds ^abcdefghijklm",
                                "device q by x holds a ^B", "device q by x holds a b ^Drain",
                                "device q by x holds a b c d ^1 drain", "device q by x holds ^!")
        self.assert_line_faults(4, UP_TO_DEVICES, "kick ^B y for 1", "kick ^9 y for 1", "kick ^abcdefghijklm y for 1",
                                "kick b ^Y for 1", "kick b ^1 for 1", "kick b ^y- for 1", "kick b y for 1 till ^C",
                                "kick b y for 1 till ^1", "kick b y for 1 till ^abcdefghijklm")

    def test_barred_new_names(self):
        self.assert_line_faults(4, HEAD, "switch ^drain at 0 close 1 open 1", "lamp ^loop at 0")
        self.assert_line_faults(4, UP_TO_SWITCHES, "switch ^drain at 0 close 1 open 1", "lamp ^loop at 5")

    def test_no_number(self):
        self.assert_line_faults(4, (), "table t balls ^x", "table t balls ^01", "table t balls ^0", "table t balls ^9")
        self.assert_line_faults(4, UP_TO_LAMPS, "coil q at ^x most 1 rest 1", "coil q at 0 most ^rest 1",
                                "coil q at 0 most 1 rest ^hold 1", "coil q at 0 most 1 rest 1 hold ^x",
                                "coil q at 0 most 1 rest 1 hold ^01")
        self.assert_line_faults(4, UP_TO_DEVICES, "kick b y for ^till c", "kick b y for ^010", "kick b y for ^0")


class Kind5(Faults):
    def test_names_that_the_sort_has(self):
        self.assert_line_faults(5, LINES[:3], "switch ^a at 62 close 1 open 1", "switch ^b at 0 close 1 open 1")
        self.assert_line_faults(5, UP_TO_LAMPS, "lamp ^l at 7", "lamp ^m at 0")
        self.assert_line_faults(5, UP_TO_COILS, "coil ^x at 31 most 1 rest 1", "coil ^z at 0 most 1 rest 1")
        self.assert_line_faults(5, UP_TO_DEVICES, "device ^trough by z holds c", "device ^trough by x holds a")

    def test_places_that_do_not_rise(self):
        self.assert_line_faults(5, LINES[:3], "switch q at ^9 close 1 open 1", "switch q at ^8 close 1 open 1",
                                "switch q at ^0 close 1 open 1")
        self.assert_line_faults(5, UP_TO_LAMPS, "lamp q at ^6", "lamp q at ^5", "lamp q at ^0")
        self.assert_line_faults(5, UP_TO_COILS, "coil q at ^3 most 1 rest 1", "coil q at ^0 most 1 rest 1")
        self.assert_line_faults(5, LINES[:2], "switch q at ^0 close 1 open 1")

    def test_places_of_each_sort_rise_by_themselves(self):
        text = joined(["table t balls 1", "switch a at 62 close 1 open 1", "switch b at 63 close 1 open 1",
                       "lamp l at 0", "coil x at 0 most 1 rest 1", "coil y at 1 most 1 rest 1",
                       "device d by y holds b drain", "kick a x for 1"])
        self.assertEqual(run(begin(text)), [[0]])

    def test_kicks(self):
        self.assert_line_faults(5, LINES, "kick ^b z for 1", "kick ^b y for 1")
        before = UP_TO_DEVICES + ("kick c y for 1",)
        self.assert_line_faults(5, before, "kick ^b z for 1", "kick ^c z for 1")
        self.assertEqual(run(begin(joined(before + ("kick d z for 1",)))), [[0]])

    def test_second_switches_of_kicks_need_not_rise(self):
        for second in "acd":
            self.assertEqual(run(begin(joined(UP_TO_DEVICES + ("kick b y for 1 till " + second,)))), [[0]])
        lines = UP_TO_DEVICES + ("kick b y for 1 till d", "kick c z for 1 till a")
        self.assertEqual(run(begin(joined(lines))), [[0]])


class Kind6(Faults):
    def test_names_that_do_not_stand_before(self):
        self.assert_line_faults(6, UP_TO_COILS, "device q by ^w holds a", "device q by ^a holds a",
                                "device q by ^l holds a", "device q by ^q holds a", "device q by ^t holds a",
                                "device q by x holds ^w", "device q by x holds ^x", "device q by x holds ^l",
                                "device q by x holds a ^w", "device q by x holds a b ^q drain",
                                "device q by ^drain holds a")
        self.assert_line_faults(6, UP_TO_DEVICES, "kick ^w y for 1", "kick ^y y for 1", "kick ^trough y for 1",
                                "kick ^drain y for 1", "kick b ^w for 1", "kick b ^b for 1", "kick b ^trough for 1",
                                "kick b y for 1 till ^w", "kick b y for 1 till ^y", "kick b y for 1 till ^drain")

    def test_drain_as_the_first_switch(self):
        self.assert_line_faults(6, UP_TO_COILS, "device q by x holds ^drain", "device q by x holds ^drain drain",
                                "device q by x holds ^drain a")

    def test_tables_without_any(self):
        self.assert_line_faults(6, HEAD, "device q by ^x holds a", "kick ^a x for 1")


class Kind7(Faults):
    def test_devices(self):
        self.assert_line_faults(7, UP_TO_DEVICES, "device q by ^x holds b", "device q by ^x holds a",
                                "device q by z holds ^a", "device q by z holds b ^a", "device q by z holds b ^b",
                                "device q by z holds b c d ^c drain", "device q by z holds b c d ^a drain")

    def test_first_switch_of_a_kick_in_a_device(self):
        self.assert_line_faults(7, UP_TO_DEVICES, "kick ^a y for 1", "kick ^a x for 1")
        before = UP_TO_DEVICES + ("device q by z holds b c",)
        self.assert_line_faults(7, before, "kick ^b y for 1", "kick ^c y for 1", "kick ^a y for 1")
        self.assertEqual(run(begin(joined(before + ("kick d y for 1 till c",)))), [[0]])

    def test_coil_of_a_kick(self):
        self.assert_line_faults(7, UP_TO_DEVICES, "kick b ^x for 1")
        self.assert_line_faults(7, LINES, "kick c ^y for 1", "kick c ^x for 1")

    def test_span_above_its_coils_most(self):
        lines = UP_TO_SWITCHES + ("coil w at 0 most 1 rest 1", "coil x at 1 most 10 rest 1",
                                  "coil y at 2 most 254 rest 1 hold 3", "device d by w holds a drain")
        self.assert_line_faults(7, lines, "kick b x for ^11", "kick b x for ^255", "kick b x for ^11 till c",
                                "kick b y for ^255")
        for line in ("kick b x for 10", "kick b x for 1", "kick b y for 254"):
            self.assertEqual(run(begin(joined(lines + (line,)))), [[0]])

    def test_second_switch_of_a_kick(self):
        self.assert_line_faults(7, UP_TO_DEVICES, "kick b y for 1 till ^b", "kick c y for 1 till ^c")


class Kind8(Faults):
    def text(self, balls, *devices):
        lines = [f"table t balls {balls}"]
        lines += [f"switch s{place} at {place} close 1 open 1" for place in range(9)]
        lines += [f"coil x{place} at {place} most 1 rest 1" for place in range(3)]
        return joined(lines + list(devices))

    def test_no_drain(self):
        self.assert_fault(8, "table t balls 1\n^")
        self.assert_fault(8, self.text(1) + "^")
        self.assert_fault(8, self.text(1, "device d by x0 holds s0 s1 s2") + "^")

    def test_too_few(self):
        one, two = "device d by x0 holds s0 drain", "device e by x1 holds s1 s2 s3 drain"
        other = "device f by x2 holds s4 s5 s6 s7 s8"
        for devices, enough in (((one,), 1), ((two,), 3), ((one, two), 4), ((one, other), 1), ((two, other, one), 4)):
            for balls in range(1, 9):
                with self.subTest(devices=devices, balls=balls):
                    if balls <= enough:
                        self.assertEqual(run(begin(self.text(balls, *devices))), [[0]])
                    else:
                        self.assert_fault(8, self.text(balls, *devices) + "^")

    def test_eight_in_one_device(self):
        self.assertEqual(run(begin(self.text(8, "device d by x0 holds s0 s1 s2 s3 s4 s5 s6 s7 drain"))), [[0]])

    def test_told_behind_all_others(self):
        self.assert_fault(3, self.text(8) + "^x\n")
        self.assert_fault(1, self.text(8) + "x^")


class WhichIsTold(Faults):
    def test_first_line(self):
        self.assert_fault(4, "table t balls ^0\n\0\n")
        self.assert_fault(3, "table t balls 1\n^\n \n")
        self.assert_fault(5, joined(UP_TO_SWITCHES) + "switch ^a at 0 close 1 open 1\nx")
        self.assert_fault(2, "table t balls 1\n^\t\nx")

    def test_first_word(self):
        self.assert_fault(4, "table ^T ball 0 x\n")
        self.assert_fault(3, "table t ^ball 0 x\n")
        self.assert_fault(4, "table t balls ^0 x\n")
        self.assert_line_faults(5, UP_TO_SWITCHES, "switch ^a on 0 close 0")
        self.assert_line_faults(7, UP_TO_DEVICES, "device q by ^x hold w", "kick ^a W for 0", "kick b ^x far")
        self.assert_line_faults(6, UP_TO_DEVICES, "device q by ^w hold X", "kick ^w W for 0", "kick b ^w far")

    def test_missing_word_comes_behind_those_that_stand(self):
        self.assert_line_faults(4, HEAD, "switch ^Q", "switch ^drain", "lamp q at ^64", "coil q at ^32 most")

    def test_least_kind_of_one_word(self):
        # A place out of its bounds doesn't rise either (4 before 5).
        self.assert_line_faults(4, UP_TO_COILS, "coil q at ^-1 most 1 rest 1", "coil q at ^03 most 1 rest 1")
        # A kick's switch that doesn't rise, and that a device has (5 before 7).
        before = UP_TO_DEVICES + ("device q by z holds c", "kick d y for 1")
        self.assert_line_faults(5, before, "kick ^c x for 1", "kick ^a x for 1")
        # A number out of its bounds that is above its coil's most (4 before 7).
        self.assert_line_faults(4, UP_TO_DEVICES, "kick b y for ^256", "kick b y for ^4096")


class Refused(unittest.TestCase):
    def test_all_is_as_it_was(self):
        start = [begin(RIGHT), rows(row_bytes([0, 10], 13))]
        show = [TICK] + [call(place) for place in range(64) for call in (stands, soon)] + [rows([255] * 40)]
        wrong = ["", "x", "x\n", "table t balls 1\n", RIGHT[:-1], RIGHT + "\0\n", RIGHT + " ", "a" * 16385,
                 RIGHT + "kick c y for 1\n", RIGHT.replace("at 5", "at 99"), RIGHT.replace("x holds a", "x holds w")]
        expected = run(*start, *show)[2:]
        for text in wrong:
            found = run(*start, begin(text), *show)
            self.assertLess(found[2][0], 0)
            self.assertEqual(found[3:], expected)


if __name__ == "__main__":
    unittest.main()
