"""The calls begin, rows, soon, stands and tick: their answers, their refusals, their form."""

import contextlib
import io
import unittest

from bouncetable.switches import Bench, answers
from helper import RIGHT, TICK, begin, joined, row_bytes, rows, run, samples_of, soon, stands, table_of

HIGHEST = 4294967295


def all_that_shows():
    """Calls that tell all that can be seen of the object."""
    calls = [TICK]
    for place in range(64):
        calls += [stands(place), soon(place)]
    return calls


class GuardedList(list):
    """A list that refuses to be changed, even for a while."""

    def refuse(self, *arguments):
        raise AssertionError("the list handed in was changed")

    __setitem__ = __delitem__ = __iadd__ = __imul__ = refuse
    append = extend = insert = pop = remove = clear = reverse = sort = refuse


class Begin(unittest.TestCase):
    def test_right_text(self):
        self.assertEqual(answers(begin(RIGHT)), [1, 0])

    def test_starts_at_tick_0_with_all_open_and_nothing_seen(self):
        self.assertEqual(
            run(begin(RIGHT), TICK, stands(0), stands(9), stands(10), stands(63))[1:],
            [[0, 0]] + [[0, 0, 0]] * 4)

    def test_second_begin_in_place_of_the_first(self):
        other = table_of("q at 20 close 2 open 2")
        found = run(begin(RIGHT), rows(row_bytes([0, 10], 11)), begin(other), TICK, stands(0), stands(10),
                    stands(20), rows(row_bytes([0], 1)))
        self.assertEqual(found[2:], [[0], [0, 0], [0, 0, 0], [-4], [0, 0, 0], [0, 1, 0, 0]])

    def test_same_table_begun_again_is_new(self):
        self.assertEqual(
            run(begin(RIGHT), rows(row_bytes([0, 10], 11)), begin(RIGHT), *all_that_shows())[3:],
            run(begin(RIGHT), *all_that_shows())[1:])

    def test_too_long(self):
        for length, answer in ((16384, [-6, 4, 6]), (16385, [-2]), (29000, [-2])):
            with self.subTest(length=length):
                text = "table " + "a" * (length - 7) + "\n"
                self.assertEqual(len(text), length)
                self.assertEqual(run(begin(text)), [answer])

    def test_too_long_comes_before_every_fault(self):
        for sign in "\0 \na":
            self.assertEqual(run(begin(sign * 16384))[0][0], -6)
            self.assertEqual(run(begin(sign * 16385)), [[-2]])

    def test_long_text_is_right_to_its_last_bytes(self):
        line = "kick " + "q" * (16384 - len(RIGHT) - 6) + "\n"
        self.assertEqual(len(RIGHT + line), 16384)
        self.assertEqual(run(begin(RIGHT + line)), [[-6, 4, len(RIGHT) + 5]])
        self.assertEqual(run(begin(RIGHT + line + "\n")), [[-2]])

    def test_largest_table(self):
        names = [f"name_{number:07}" for number in range(64)]
        lines = ["table abcdefghijkl balls 8"]
        lines += [f"switch {name} at {place} close 31 open 31 turned" for place, name in enumerate(names)]
        lines += [f"lamp {name} at {place}" for place, name in enumerate(names)]
        lines += [f"coil {name} at {place} most 1023 rest 4095 hold 15" for place, name in enumerate(names[:32])]
        lines += [f"device {names[k]} by {names[k]} holds {' '.join(names[k:48:8][:6])} drain" for k in range(8)]
        lines += [f"kick {names[48 + k]} {names[8 + k]} for 255 till {names[0]}" for k in range(8)]
        self.assertEqual(run(begin(joined(lines)), stands(63), soon(63)), [[0], [0, 0, 0], [0, 8 * 31]])


class Rows(unittest.TestCase):
    def test_ordinary(self):
        self.assertEqual(answers(begin(RIGHT) + rows([1])), [1, 0, 4, 0, 1, 0, 0])
        self.assertEqual(answers(begin(RIGHT) + rows([0])), [1, 0, 2, 0, 0])

    def test_none(self):
        self.assertEqual(run(begin(RIGHT), rows([]), TICK)[1:], [[0, 0], [0, 0]])

    def test_rows_are_numbered_within_their_call(self):
        given = row_bytes([0], 8) + row_bytes([], 8)
        self.assertEqual(
            run(begin(table_of()), rows(given), rows(given), rows(given[:3])),
            [[0], [0, 2, 0, 0, 8, 64], [0, 2, 0, 0, 8, 64], [0, 1, 0, 0]])

    def test_as_many_as_can_be_handed_in(self):
        found = run(begin(table_of()), rows(([1] + [0] * 15) * 1812), TICK)
        self.assertEqual(found[1][:6], [0, 3624, 0, 0, 8, 64])
        self.assertEqual(found[2], [0, 28992])

    def test_more_than_65536_are_refused(self):
        # No list of calls can hold as many, so the object itself is asked.
        bench = Bench()
        bench.begin(begin(RIGHT)[2:])
        self.assertEqual(bench.rows([1] * 65537), [-2])
        self.assertEqual(bench.tick(), [0, 0])
        self.assertEqual(bench.stands(0), [0, 0, 0])
        self.assertEqual(bench.rows([0] * 65536), [0, 1, 9, 9])
        self.assertEqual(bench.tick(), [0, 65536])


class Soon(unittest.TestCase):
    def test_new(self):
        found = run(begin(RIGHT), soon(0), soon(9), soon(10), soon(63))
        self.assertEqual(found[1:], [[0, 1], [0, 2 + 8], [0, 2 + 16], [0, 8 + 240]])

    def test_counts_down_to_the_sample_and_starts_anew_behind_it(self):
        text = table_of("q at 19 close 1 open 1")
        for tick, ticks in enumerate((3, 2, 1, 8, 7, 6, 5, 4, 3, 2, 1, 8)):
            with self.subTest(tick=tick):
                self.assertEqual(run(begin(text), rows([0] * tick), soon(19))[2], [0, ticks])

    def test_samples_seen_count(self):
        found = run(begin(RIGHT), rows(samples_of(10, [1, 1])), soon(10), rows(samples_of(10, [0])), soon(10))
        self.assertEqual((found[2], found[4]), ([0, 2], [0, 2 + 16]))

    def test_opening_wants_what_open_tells(self):
        found = run(begin(RIGHT), rows(samples_of(10, [1, 1, 1])), soon(10), rows(samples_of(10, [0])), soon(10))
        self.assertEqual((found[2], found[4]), ([0, 2 + 8], [0, 2]))

    def test_is_just_when_the_event_is_told(self):
        text = table_of("q at 19 close 4 open 3", "r at 29 close 2 open 5 turned")
        for place, turned in ((19, 0), (29, 1)):
            for before in range(60):
                with self.subTest(place=place, before=before):
                    start = [begin(text), rows([0] * (before // 2) + [255] * (before - before // 2))]
                    ticks = run(*start, soon(place))[2][1]
                    closed = run(*start, stands(place))[2][1]
                    # The other way: a contact closed where the switch is open, but if it is turned.
                    ahead = [255 if closed == turned else 0] * ticks
                    events = run(*start, rows(ahead))[2][2:]
                    of_place = [row for row, event in zip(events[::2], events[1::2]) if event % 64 == place]
                    self.assertEqual(of_place, [ticks - 1])

    def test_refusals(self):
        found = run(begin(RIGHT), soon(64), soon(HIGHEST), soon(1), soon(62), soon(8))
        self.assertEqual(found[1:], [[-1], [-1], [-4], [-4], [-4]])


class Stands(unittest.TestCase):
    def test_open_and_closed(self):
        found = run(begin(RIGHT), stands(0), rows([1]), stands(0), rows([0] * 7), stands(0), rows([0]), stands(0))
        self.assertEqual(found[1::2], [[0, 0, 0], [0, 1, 0], [0, 1, 0], [0, 0, 0]])

    def test_seen(self):
        calls = [begin(RIGHT)]
        for contact in (1, 1, 0, 1, 1, 1, 0, 1, 0, 0, 1):
            calls += [rows(samples_of(10, [contact])), stands(10)]
        self.assertEqual(run(*calls)[2::2], [
            [0, 0, 1], [0, 0, 2], [0, 0, 0], [0, 0, 1], [0, 0, 2], [0, 1, 0],
            [0, 1, 1], [0, 1, 0], [0, 1, 1], [0, 0, 0], [0, 0, 1]])

    def test_place_63(self):
        found = run(begin(RIGHT), rows(samples_of(63, [1] * 30)), stands(63), rows(samples_of(63, [1])), stands(63))
        self.assertEqual((found[2], found[4]), ([0, 0, 30], [0, 1, 0]))

    def test_refusals(self):
        found = run(begin(RIGHT), stands(64), stands(HIGHEST), stands(1), stands(62), stands(11))
        self.assertEqual(found[1:], [[-1], [-1], [-4], [-4], [-4]])


class Tick(unittest.TestCase):
    def test_counts_rows(self):
        found = run(begin(RIGHT), TICK, rows([0]), TICK, rows([]), TICK, rows([255] * 300), TICK)
        self.assertEqual(found[1::2], [[0, 0], [0, 1], [0, 1], [0, 301]])


class NothingBegun(unittest.TestCase):
    def test_all_but_begin(self):
        for call in (rows([]), rows([1, 2, 3]), soon(0), soon(64), soon(HIGHEST), stands(0), stands(64),
                     stands(HIGHEST), TICK):
            with self.subTest(call=call):
                self.assertEqual(answers(call), [1, -10])

    def test_still_so_behind_a_refused_begin(self):
        for text in ("", RIGHT[:-1], "a" * 16385):
            self.assertEqual(run(begin(text), TICK, rows([1]), soon(0), stands(64))[1:], [[-10]] * 4)

    def test_rows_given_before_count_for_nothing(self):
        self.assertEqual(run(rows([1] * 5), begin(RIGHT), TICK, stands(0)), [[-10], [0], [0, 0], [0, 0, 0]])


class Form(unittest.TestCase):
    CALLS = (stands(3) + begin(RIGHT) + rows(row_bytes([0, 10], 30)) + begin("table") + soon(10) + stands(9)
             + soon(64) + stands(1) + TICK + begin("a" * 16385))

    def test_each_answer_behind_its_length(self):
        self.assertEqual(answers(self.CALLS), [
            1, -10, 1, 0, 8, 0, 3, 0, 0, 9, 9, 17, 10,
            3, -6, 1, 5, 2, 0, 12, 3, 0, 1, 0, 1, -1, 1, -4, 2, 0, 30, 1, -2])

    def test_whole_numbers_and_lists_alone(self):
        found = answers(self.CALLS)
        self.assertIs(type(found), list)
        self.assertEqual({type(number) for number in found}, {int})

    def test_list_handed_in_stays_as_it_was(self):
        calls = list(self.CALLS)
        answers(calls)
        self.assertEqual(calls, self.CALLS)
        self.assertEqual(answers(GuardedList(self.CALLS)), answers(self.CALLS))

    def test_nothing_is_kept_from_one_time_to_the_next(self):
        first = answers(self.CALLS)
        self.assertEqual(answers(TICK), [1, -10])
        self.assertEqual(answers(begin(RIGHT) + TICK + stands(0)), [1, 0, 2, 0, 0, 3, 0, 0, 0])
        first.append(7)
        self.assertEqual(answers(self.CALLS), first[:-1])

    def test_prints_nothing(self):
        out = io.StringIO()
        with contextlib.redirect_stdout(out), contextlib.redirect_stderr(out):
            answers(self.CALLS)
        self.assertEqual(out.getvalue(), "")

    def test_300_calls(self):
        self.assertEqual(run(begin(RIGHT), *[rows([1])] * 298, TICK)[-1], [0, 298])


if __name__ == "__main__":
    unittest.main()
