"""Rows, samples and events of single switches and of several, and the promises B1 to B5."""

import random
import unittest

from helper import TICK, begin, pairs, row_bytes, rows, run, samples_of, soon, stands, table_of

ALL_PLACES = list(range(1, 64))


def events(text, given):
    """The events of rows on a table just begun."""
    return pairs(run(begin(text), rows(given))[1])


def events_of(place, text, given):
    """The rows and kinds ("closed", "opened") of one place's events."""
    return [(row, "closed" if event < 64 else "opened")
            for row, event in events(text, given) if event % 64 == place]


def expected_of(place, close, opened, turned, contacts):
    """The events of one switch at a round of eight ticks for each contact, each count said as a pattern to find."""
    samples = "".join(str(contact ^ turned) for contact in contacts)
    found = []
    start = 0
    closed = False
    while True:
        pattern = "0" * opened if closed else "1" * close
        start = samples.find(pattern, start)
        if start < 0:
            return found
        start += len(pattern)
        closed = not closed
        found.append((8 * (start - 1) + place // 8, "closed" if closed else "opened"))


class OneSwitch(unittest.TestCase):
    def assert_contacts(self, place, close, opened, turned, contacts):
        text = table_of(f"q at {place} close {close} open {opened}" + (" turned" if turned else ""))
        with self.subTest(place=place, close=close, opened=opened, turned=turned, contacts=contacts):
            self.assertEqual(events_of(place, text, samples_of(place, contacts)),
                             expected_of(place, close, opened, turned, contacts))

    def test_by_hand(self):
        text = table_of("q at 10 close 3 open 2")
        given = samples_of(10, [1, 1, 0, 1, 1, 1, 1, 0, 1, 0, 0, 0, 1])
        self.assertEqual(events(text, given), [(41, 10), (81, 74)])

    def test_turned_by_hand(self):
        text = table_of("q at 10 close 3 open 2 turned")
        given = samples_of(10, [0, 0, 1, 0, 0, 0, 0, 1, 0, 1, 1, 1, 0])
        self.assertEqual(events(text, given), [(41, 10), (81, 74)])

    def test_close_and_open_of_one(self):
        text = table_of("q at 10 close 1 open 1")
        self.assertEqual(events(text, samples_of(10, [1, 0, 0, 1, 1, 0])), [(1, 10), (9, 74), (25, 10), (41, 74)])
        text = table_of("q at 10 close 1 open 1 turned")
        self.assertEqual(events(text, samples_of(10, [1, 0, 0, 1, 1, 0])), [(9, 10), (25, 74), (41, 10)])

    def test_every_place_has_its_column_and_bit(self):
        for place in ALL_PLACES:
            text = table_of(f"q at {place} close 1 open 1")
            self.assertEqual(events(text, samples_of(place, [1, 0])), [(place // 8, place), (8 + place // 8, 64 + place)])
            others = [other for other in ALL_PLACES if other != place]
            self.assertEqual(events(text, row_bytes(others, 24)), [])
            self.assertEqual(run(begin(text), rows(row_bytes(others, 24)), stands(place))[2], [0, 0, 0])

    def test_all_short_runs_of_contacts(self):
        for number in range(1 << 7):
            contacts = [number >> bit & 1 for bit in range(7)]
            for close, opened in ((1, 1), (1, 2), (2, 1), (2, 2), (3, 2), (2, 3)):
                for turned in (0, 1):
                    self.assert_contacts(13, close, opened, turned, contacts)

    def test_long_runs(self):
        for close in (1, 2, 30, 31):
            for opened in (1, 2, 30, 31):
                contacts = [1] * (close - 1) + [0] + [1] * close + [0] * (opened - 1) + [1] + [0] * opened + [1] * 31
                self.assert_contacts(63, close, opened, 0, contacts)
                self.assert_contacts(1, close, opened, 1, [1 - contact for contact in contacts])

    def test_sample_as_taken_forgets_what_was_seen(self):
        text = table_of("q at 10 close 2 open 2")
        self.assertEqual(events(text, samples_of(10, [1, 0] * 20)), [])
        self.assertEqual(events(text, samples_of(10, [1, 1] + [0, 1] * 20)), [(9, 10)])

    def test_rows_of_other_columns_say_nothing(self):
        text = table_of("q at 10 close 2 open 2")
        given = [255 if tick % 8 != 1 else 0 for tick in range(64)]
        self.assertEqual(events_of(10, text, given), [])
        self.assertEqual(run(begin(text), rows([255] * 8), stands(10), rows([0]), stands(10))[2::2],
                         [[0, 0, 1], [0, 0, 1]])


class SeveralSwitches(unittest.TestCase):
    def test_one_row_tells_by_place(self):
        text = table_of("p at 8 close 1 open 1 turned", "q at 9 close 1 open 1", "r at 12 close 2 open 1 turned",
                        "s at 15 close 2 open 1")
        given = [0, 0b00000010] + [0] * 6 + [0, 0b10000000] + [0] * 6 + [0, 0b10000001]
        self.assertEqual(events(text, given), [(1, 8), (1, 9), (9, 64 + 9), (9, 12), (17, 64 + 8), (17, 15)])

    def test_whole_column(self):
        text = table_of(*[f"s{place} at {place} close 1 open 1" for place in range(40, 48)])
        given = [0, 0, 0, 0, 0, 255, 0, 0] + [0] * 8
        self.assertEqual(events(text, given),
                         [(5, place) for place in range(40, 48)] + [(13, 64 + place) for place in range(40, 48)])

    def test_places_without_a_switch(self):
        text = table_of("q at 10 close 1 open 1", "r at 12 close 1 open 1")
        free = [place for place in range(1, 64) if place not in (10, 12)]
        self.assertEqual(events(text, row_bytes(free, 100)), [])
        found = run(begin(text), rows(row_bytes(free, 100)), stands(11), soon(11), stands(10))
        self.assertEqual(found[2:], [[-4], [-4], [0, 0, 0]])

    def test_ticks_beyond_eight(self):
        text = table_of("q at 1 close 1 open 1", "r at 63 close 1 open 1")
        given = [0] * 800 + [2] + [0] * 6 + [128] + [0] * 16
        self.assertEqual(events(text, given), [(800, 1), (807, 63), (808, 65), (815, 127)])

    def test_lamps_coils_and_kicks_change_nothing(self):
        plain = table_of("q at 1 close 2 open 1", "r at 2 close 1 open 1")
        more = plain.replace("coil x", "lamp l at 1\ncoil x").replace("device", "coil y at 1 most 9 rest 9\ndevice")
        given = [255, 0, 0, 0, 0, 0, 0, 0] * 3 + [0] * 9
        self.assertEqual(events(more + "kick q y for 9 till r\n", given), events(plain, given))


class RandomTables(unittest.TestCase):
    """Tables and rows drawn from a fixed seed, each a case for the promises."""

    def cases(self, count, ticks):
        draw = random.Random(count)
        for number in range(count):
            switches = {}
            for place in sorted(draw.sample(ALL_PLACES, draw.randint(1, 20))):
                switches[place] = (draw.randint(1, 4), draw.randint(1, 4), draw.randint(0, 1))
            contacts = [draw.getrandbits(8) for column in range(8)]
            given = []
            for tick in range(ticks):
                if draw.random() < 0.4:
                    contacts[tick % 8] = draw.getrandbits(8)
                given.append(contacts[tick % 8])
            yield switches, given

    def text(self, switches):
        return table_of(*[f"s{place} at {place} close {close} open {opened}" + (" turned" if turned else "")
                          for place, (close, opened, turned) in switches.items()])

    def samples(self, place, turned, given):
        return [(row, given[row] >> place % 8 & 1 ^ turned) for row in range(place // 8, len(given), 8)]

    def show(self, switches):
        return [TICK] + [call(place) for place in switches for call in (stands, soon)]

    def test_as_told_by_patterns(self):
        for switches, given in self.cases(40, 320):
            found = events(self.text(switches), given)
            expected = []
            for place, (close, opened, turned) in switches.items():
                contacts = [given[row] >> place % 8 & 1 for row in range(place // 8, len(given), 8)]
                for row, kind in expected_of(place, close, opened, turned, contacts):
                    expected.append((row, place, place if kind == "closed" else 64 + place))
            self.assertEqual([(row, event % 64, event) for row, event in found if event % 64 != 0], sorted(expected))

    def test_b1_closed_and_opened_in_turn(self):
        for switches, given in self.cases(30, 400):
            text = self.text(switches)
            for place in switches:
                kinds = [kind for row, kind in events_of(place, text, given)]
                self.assertEqual(kinds, (["closed", "opened"] * len(kinds))[:len(kinds)])

    def test_b2_so_many_samples_that_way_and_never_before(self):
        for switches, given in self.cases(30, 400):
            text = self.text(switches)
            for place, (close, opened, turned) in switches.items():
                samples = self.samples(place, turned, given)
                behind = 0
                for row, kind in events_of(place, text, given) + [(len(given), None)]:
                    way, wanted = (1, close) if kind == "closed" else (0, opened)
                    between = [sample for at, sample in samples if behind <= at <= row]
                    if kind is None:
                        closed = run(begin(text), rows(given), stands(place))[2][1]
                        way, wanted = (0, opened) if closed else (1, close)
                    else:
                        self.assertEqual(between[-wanted:], [way] * wanted)
                        between = between[:-1]
                    runs = "".join(map(str, between))
                    self.assertNotIn(str(way) * wanted, runs)
                    behind = row + 1

    def test_b3_rows_in_pieces(self):
        draw = random.Random(3)
        for switches, given in self.cases(30, 200):
            text = self.text(switches)
            whole = run(begin(text), rows(given), *self.show(switches))
            for longest in (1, 3, 8, 60):
                calls, starts, start = [], [], 0
                while start < len(given):
                    length = draw.randint(0, longest)
                    calls.append(rows(given[start:start + length]))
                    starts.append(start)
                    start += length
                found = run(begin(text), *calls, *self.show(switches))
                told = [(start + row, event) for start, answer in zip(starts, found[1:]) for row, event in pairs(answer)]
                self.assertEqual(told, pairs(whole[1]))
                self.assertEqual(found[1 + len(calls):], whole[2:])

    def test_b3_asking_between_pieces_changes_nothing(self):
        for switches, given in self.cases(10, 100):
            text = self.text(switches)
            calls = [begin(text)]
            for row in given:
                calls += [rows([row]), stands(min(switches)), soon(max(switches)), soon(64), TICK]
            told = [(number, event) for number, answer in enumerate(run(*calls)[1::5])
                    for row, event in pairs(answer)]
            self.assertEqual(told, events(text, given))

    def test_b4_other_contacts_and_switches_change_nothing(self):
        draw = random.Random(4)
        for switches, given in self.cases(30, 200):
            text = self.text(switches)
            for place, told in switches.items():
                expected = run(begin(text), rows(given), stands(place), soon(place))
                bit = 1 << place % 8
                other = [row & bit | draw.getrandbits(8) & ~bit & 255 if tick % 8 == place // 8 else draw.getrandbits(8)
                         for tick, row in enumerate(given)]
                self.assertEqual(events_of(place, text, other), events_of(place, text, given))
                self.assertEqual(run(begin(text), rows(other), stands(place), soon(place))[2:], expected[2:])
                alone = self.text({place: told})
                self.assertEqual(events_of(place, alone, given), events_of(place, text, given))
                self.assertEqual(run(begin(alone), rows(given), stands(place), soon(place))[2:], expected[2:])

    def test_b5_refused_calls_change_nothing(self):
        for switches, given in self.cases(20, 150):
            text = self.text(switches)
            free = [place for place in ALL_PLACES if place not in switches][0]
            refused = [begin(text[:-1]), begin(""), begin("a" * 16385), soon(64), soon(free), stands(4294967295),
                       stands(free)]
            found = run(begin(text), rows(given[:70]), *refused, *self.show(switches), rows(given[70:]),
                        *self.show(switches))
            self.assertTrue(all(len(answer) == 1 or answer[0] == -6 for answer in found[2:9]))
            self.assertTrue(all(answer[0] < 0 for answer in found[2:9]))
            self.assertEqual(found[:2] + found[9:], run(begin(text), rows(given[:70]), *self.show(switches),
                                                        rows(given[70:]), *self.show(switches)))


if __name__ == "__main__":
    unittest.main()
