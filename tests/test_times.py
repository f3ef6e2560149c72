import math
import unittest
from fractions import Fraction

from paperroll.spools import Spool
from tests.helper import (
    BAR, GREATEST, LAST, LEVER, NOW, SPOOL, STEP_ON, ask, bar_text, events_of, feeding, lever, list_of, opening, stepping,
    strip_text, told,
)

TICKING = bar_text(["key 1", "key 2"])


def angle(spool, row):
    """Turn by turn, as the document tells it."""
    paper = row * spool[2]
    turns = 0
    turn = spool[0]
    while turn <= paper:
        paper -= turn
        turn += spool[1]
        turns += 1
    return turns + Fraction(paper, turn)


def ticking(how_many):
    """At each row one key is struck."""
    return feeding(strip_text(2, [[row % 2] for row in range(how_many)]))


def times_told(spool, *calls):
    """Of each row the time of its events."""
    times = {}
    for answer in ask(opening(TICKING, spool), *calls):
        for event in events_of(answer) if len(answer) > 1 else []:
            times.setdefault(event[3], set()).add(event[4])
    if any(len(found) > 1 for found in times.values()):
        raise AssertionError("a row with two times")
    return [times[row].pop() for row in sorted(times)]


def times_of(spool, how_many):
    return times_told(spool, ticking(how_many), STEP_ON)


def time_now(answer):
    return list_of(answer)[4]


class Evenly(unittest.TestCase):
    def test_the_examples_spool(self):
        self.assertEqual(times_of(SPOOL, 5), [0, 10000, 20000, 30000, 40000])

    def test_whole_turns(self):
        self.assertEqual(times_of((10, 0, 10, 7), 5), [0, 7, 14, 21, 28])
        self.assertEqual(times_of((10, 0, 30, 7), 4), [0, 21, 42, 63])

    def test_fractions_rounded_up(self):
        # 10 / 3 of a microsecond a row.
        self.assertEqual(times_of((3, 0, 1, 10), 8), [0, 4, 7, 10, 14, 17, 20, 24])
        self.assertEqual(times_of((7, 0, 3, 5), 8), [0, 3, 5, 7, 9, 11, 13, 15])

    def test_however_small_a_fraction(self):
        self.assertEqual(times_of((1000000, 0, 1, 1), 3), [0, 1, 1])
        self.assertEqual(times_of((999999, 0, 1000, 999), 4), [0, 1, 2, 3])
        self.assertEqual(times_of((1000000, 0, 99999, 10), 12)[-2:], [10, 11])
        self.assertEqual(times_of((1000000, 0, 100000, 10), 12)[-2:], [10, 11])
        self.assertEqual(times_of((999999, 0, 100000, 10), 12)[-2:], [11, 12])


class MoreForEachTurn(unittest.TestCase):
    def test_by_hand(self):
        # Turns of 2, 3, 4, 5 of paper end at 2, 5, 9, 14; a row takes 1, a turn 60.
        self.assertEqual(times_of((2, 1, 1, 60), 15),
                         [0, 30, 60, 80, 100, 120, 135, 150, 165, 180, 192, 204, 216, 228, 240])

    def test_by_hand_rounded_up(self):
        # Turns of 3, 5, 7 end at 3, 8, 15; angles 0, 2/3, 1 + 1/5, 1 + 3/5, 2, 2 + 2/7.
        self.assertEqual(times_of((3, 2, 2, 10), 6), [0, 7, 12, 16, 20, 23])

    def test_several_turns_a_row(self):
        # Turns of 1, 2, 3, 4 end at 1, 3, 6, 10; rows at 0, 5, 10.
        self.assertEqual(times_of((1, 1, 5, 30), 3), [0, 80, 120])

    def test_a_turn_that_just_isnt_full(self):
        # Turns of 4 and 5 end at 4 and 9; row 3 is at 9, row 2 at 6, row 1 at 3.
        self.assertEqual(times_of((4, 1, 3, 20), 4), [0, 15, 28, 40])

    def test_against_turn_by_turn(self):
        spools = [
            (1, 1, 1, 1), (1, 10000, 100000, 60000000), (1000000, 10000, 100000, 60000000), (1, 10000, 1, 60000000),
            (1000000, 1, 100000, 59999999), (999983, 9973, 99991, 59999971), (1, 1, 100000, 12345677), (7, 3, 1000, 1),
            (157000, 31, 2117, 7654321), (1000000, 10000, 1, 60000000), (250, 999, 40000, 31415926),
        ]
        for spool in spools:
            rows = (0, 1, 2, 3, 50, 99, 180, 255)
            expected = [math.ceil(spool[3] * angle(spool, row)) for row in rows]
            times = times_of(spool, 256)
            self.assertEqual([times[row] for row in rows], expected, spool)

    def test_the_angle_is_exact(self):
        for spool in ((3, 2, 2, 10), (157000, 31, 2117, 7654321), (1, 10000, 99999, 1), (1000, 0, 999, 1)):
            for row in (0, 1, 2, 7, 40, 511, 527):
                found = Spool(spool).angle(row)
                self.assertEqual(Fraction(found[0], found[1]), angle(spool, row))


class AtTheBounds(unittest.TestCase):
    def test_the_most_turns(self):
        # 52,700,000 turns up to row 527, which is the last one behind 512 rows and a tail of 15.
        bar = bar_text(["key 1", "key 2"], tail=15)
        answered = ask(opening(bar, (1, 0, 100000, 60000000)), ticking(256), STEP_ON, ticking(256), LAST, STEP_ON, NOW)
        self.assertEqual(events_of(answered[5])[-1], (1, 2, 0, 527, 527 * 100000 * 60000000))
        self.assertEqual(list_of(answered[6])[:5], [528, 0, 0, 2, 527 * 100000 * 60000000])

    def test_the_least(self):
        bar = bar_text(["key 1", "key 2"], tail=15)
        answered = ask(opening(bar, (1000000, 10000, 1, 1)), ticking(256), STEP_ON, ticking(256), LAST, STEP_ON)
        self.assertEqual(events_of(answered[5])[-1], (1, 2, 0, 527, 1))

    def test_rows_above_512_by_turns_that_grow(self):
        spool = (1, 7, 100000, 60000000)
        bar = bar_text(["key 1", "key 2"], tail=3)
        answered = ask(opening(bar, spool), ticking(256), STEP_ON, ticking(256), LAST, STEP_ON)
        self.assertEqual(events_of(answered[5])[-1], (1, 2, 0, 515, math.ceil(60000000 * angle(spool, 515))))


class LeverRange(unittest.TestCase):
    def test_taken(self):
        for turn_time in (1, 2, 10000000, 59999999, 60000000):
            self.assertEqual(ask(opening(), lever(turn_time)), [[0], [0]])

    def test_refused(self):
        for turn_time in (0, 60000001, GREATEST):
            self.assertEqual(ask(opening(), lever(turn_time)), [[0], [-1]])

    def test_refused_it_changes_nothing(self):
        spool = (3, 0, 1, 10)
        plain = times_told(spool, ticking(9), stepping(4), STEP_ON)
        for turn_time in (0, 60000001, GREATEST):
            self.assertEqual(times_told(spool, lever(turn_time), ticking(9), stepping(4), lever(turn_time), STEP_ON), plain)
        # What was set before holds on.
        self.assertEqual(times_told(spool, ticking(4), stepping(2), lever(3), lever(0), STEP_ON), [0, 4, 5, 6])
        self.assertEqual(times_told(spool, ticking(4), stepping(2), lever(3), stepping(1), lever(0), STEP_ON), [0, 4, 5, 6])


class Lever(unittest.TestCase):
    def test_before_the_first_row(self):
        self.assertEqual(times_told(SPOOL, lever(20000000), ticking(4), STEP_ON), [0, 20000, 40000, 60000])
        self.assertEqual(times_told(SPOOL, ticking(4), lever(1), lever(20000000), STEP_ON), [0, 20000, 40000, 60000])
        answered = ask(opening(), lever(20000000), NOW, stepping(1), NOW)
        self.assertEqual([time_now(answered[2]), time_now(answered[4])], [0, 0])

    def test_between_rows(self):
        self.assertEqual(times_told(SPOOL, ticking(6), stepping(3), LEVER, STEP_ON), [0, 10000, 20000, 40000, 60000, 80000])
        self.assertEqual(times_told(SPOOL, ticking(5), stepping(1), LEVER, stepping(2), lever(1000000), STEP_ON),
                         [0, 20000, 40000, 41000, 42000])

    def test_twice_in_a_row(self):
        self.assertEqual(times_told(SPOOL, ticking(4), stepping(2), lever(60000000), LEVER, STEP_ON), [0, 10000, 30000, 50000])
        self.assertEqual(times_told(SPOOL, ticking(4), stepping(2), LEVER, LEVER, STEP_ON), [0, 10000, 30000, 50000])

    def test_the_rounded_time_is_the_new_beginning(self):
        # A row takes 10 / 3; from row 1, at 4, it's reckoned anew, so row 2 comes at 4 + 4 and not at 7.
        self.assertEqual(times_of((3, 0, 1, 10), 5), [0, 4, 7, 10, 14])
        self.assertEqual(times_told((3, 0, 1, 10), ticking(5), stepping(2), lever(10), STEP_ON), [0, 4, 8, 11, 14])
        self.assertEqual(times_told((3, 0, 1, 10), ticking(5), stepping(2), lever(5), stepping(1), lever(10), STEP_ON),
                         [0, 4, 6, 10, 13])

    def test_the_difference_of_angles_is_rounded_not_each(self):
        # Turns of 3, 5, 7: angles 0, 2/3, 6/5, 8/5, 2, 16/7; from row 1, at 7, the differences are 8/15, 14/15, 4/3, 34/21.
        self.assertEqual(times_told((3, 2, 2, 10), ticking(6), stepping(2), lever(10), STEP_ON), [0, 7, 13, 17, 21, 24])
        self.assertEqual(times_told((3, 2, 2, 10), ticking(6), stepping(2), lever(30), STEP_ON), [0, 7, 23, 35, 47, 56])

    def test_at_row_0(self):
        self.assertEqual(times_told((3, 0, 1, 10), ticking(3), stepping(1), lever(20), STEP_ON), [0, 7, 14])

    def test_in_the_midst_of_a_rows_events(self):
        # The row begun last keeps its time, told or untold.
        calls = (ticking(4), stepping(2, 2), lever(20000000), stepping(0, 1), lever(30000000), STEP_ON)
        self.assertEqual(times_told(SPOOL, *calls), [0, 10000, 40000, 70000])
        answered = ask(opening(TICKING), *calls)
        self.assertEqual([answer[0] for answer in answered], [0, 0, 3, 0, 0, 0, 1])
        self.assertEqual(events_of(answered[4]), [(2, 2, 0, 1, 10000)])

    def test_the_row_begun_last_may_have_no_events(self):
        bar = bar_text(["key 1"])
        strip = feeding(strip_text(1, [[0], [0], [0], []]))
        answered = ask(opening(bar), strip, stepping(3), LEVER, NOW, STEP_ON)
        self.assertEqual(time_now(answered[4]), 20000)
        self.assertEqual(events_of(answered[5]), [(1, 1, 0, 3, 40000)])

    def test_where_rows_are_missing(self):
        self.assertEqual(times_told(SPOOL, ticking(2), STEP_ON, LEVER, ticking(2), STEP_ON), [0, 10000, 30000, 50000])

    def test_behind_the_last_row(self):
        bar = bar_text(["key 1"], tail=3)
        strip = feeding(strip_text(1, [[0], []]))
        answered = ask(opening(bar), strip, LAST, stepping(3), LEVER, STEP_ON, NOW, lever(1), NOW, STEP_ON)
        self.assertEqual(told(answered[5]), (2, [(1, 1, 0, 4, 60000)]))
        self.assertEqual(time_now(answered[6]), 80000)
        self.assertEqual(answered[7], [0])
        self.assertEqual(answered[8], answered[6])
        self.assertEqual(answered[9], [2])

    def test_now_is_as_it_was(self):
        answered = ask(opening(), feeding(strip_text(4, [[0], [1], [2]])), stepping(2, 1), NOW, LEVER, NOW)
        self.assertEqual(answered[5], answered[3])

    def test_a_new_player_begins_anew(self):
        answered = ask(opening(TICKING), ticking(3), stepping(3), LEVER, opening(TICKING), ticking(3), STEP_ON)
        self.assertEqual(answered[6], ask(opening(TICKING), ticking(3), STEP_ON)[2])

    def test_the_greatest_and_the_least_in_turn(self):
        spool = (1, 0, 100000, 1)
        calls = [ticking(5), stepping(1)]
        for turn_time in (60000000, 1, 60000000, 1):
            calls += [lever(turn_time), stepping(1)]
        turn = 100000 * 60000000
        self.assertEqual(times_told(spool, *calls), [0, turn, turn + 100000, 2 * turn + 100000, 2 * turn + 200000])


class Order(unittest.TestCase):
    def test_a_rows_events_have_one_time(self):
        events = events_of(ask(opening(BAR, SPOOL), feeding(strip_text(4, [[0, 1, 2], [3]])), STEP_ON)[2])
        self.assertEqual([event[3:] for event in events], [(0, 0)] * 3 + [(1, 10000)])

    def test_times_do_not_fall(self):
        calls = [ticking(200)]
        for turn_time in range(1, 60):
            calls += [stepping(3), lever(turn_time * 7919 % 61 + 1)]
        for spool in ((3, 2, 1, 10), (1000000, 0, 1, 60000000), (5, 0, 7, 1)):
            times = times_told(spool, *calls)
            self.assertEqual(len(times), 177)
            self.assertEqual(times, sorted(times))


if __name__ == "__main__":
    unittest.main()
