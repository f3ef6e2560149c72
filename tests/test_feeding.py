import unittest

from paperroll.bars import read_bar
from paperroll.playing import Player
from paperroll.spools import Spool
from paperroll.strips import Strip
from tests.helper import (
    BAR, HEAD, LAST, NOW, SPOOL, STEP_ON, STRIP, ask, fault, feeding, list_of, numbers_of, opening, stepping, strip_of,
    strip_text,
)

OTHER_WIDTH = "strip 5\n"
AT_FAULT = "strip 4\n0\n"


class Feeding(unittest.TestCase):
    def test_the_examples_strip(self):
        self.assertEqual(ask(opening(), feeding(STRIP)), [[0], [0]])

    def test_again_and_again(self):
        self.assertEqual(ask(opening(), *42 * [feeding(STRIP)]), [[0]] * 43)

    def test_without_rows(self):
        self.assertEqual(ask(opening(), feeding("strip 4\n"), LAST), [[0]] * 3)

    def test_rows_stand_behind_those_fed_before(self):
        player = Player(read_bar(numbers_of(BAR)), Spool(SPOOL))
        self.assertEqual(player.feed(Strip(4, [(0,), ()])), 0)
        self.assertEqual(player.feed(Strip(4, [(0, 3)])), 0)
        self.assertEqual(player.rows, [(0,), (), (0, 3)])


class Refused(unittest.TestCase):
    def test_a_fault(self):
        self.assertEqual(ask(opening(), feeding(AT_FAULT)), [[0], fault(8)])

    def test_another_width(self):
        for width in (1, 3, 5, 128):
            self.assertEqual(ask(opening(), feeding(f"strip {width}\n")), [[0], [-5]])
            self.assertEqual(ask(opening(), feeding(strip_of(width, 2))), [[0], [-5]])
        for width in (1, 127):
            self.assertEqual(ask(opening(HEAD), feeding(strip_of(width, 2))), [[0], [-5]])

    def test_behind_last(self):
        self.assertEqual(ask(opening(), LAST, feeding()), [[0], [0], [-4]])
        self.assertEqual(ask(opening(), feeding(), LAST, feeding("strip 4\n")), [[0], [0], [0], [-4]])

    def test_257_waiting(self):
        one = feeding("strip 4\n1\n")
        none = feeding("strip 4\n")
        self.assertEqual(ask(opening(), feeding("strip 4\n256\n"), none, one, none), [[0], [0], [0], [-10], [0]])
        self.assertEqual(ask(opening(), feeding("strip 4\n255\n"), one, one), [[0], [0], [0], [-10]])
        self.assertEqual(ask(opening(), one, feeding("strip 4\n256\n"), feeding("strip 4\n255\n")),
                         [[0], [0], [-10], [0]])

    def test_rows_of_many_calls_count_together(self):
        self.assertEqual(ask(opening(), *257 * [feeding("strip 4\n1\n")]), [[0]] * 257 + [[-10]])
        self.assertEqual(ask(opening(), *44 * [feeding(STRIP)]), [[0]] * 43 + [[-10]] * 2)
        self.assertEqual(ask(opening(), feeding(strip_of(4, 200)), feeding(strip_of(4, 57)), feeding(strip_of(4, 56))),
                         [[0], [0], [-10], [0]])

    def test_the_first_of_two(self):
        full = feeding("strip 4\n256\n")
        answered = ask(opening(), full, feeding(strip_of(5, 1)), feeding(strip_of(4, 1)), LAST,
                       feeding("strip 5\n0\n"), feeding(AT_FAULT), feeding(strip_of(5, 1)), feeding(strip_of(4, 1)))
        self.assertEqual(answered, [[0], [0], [-5], [-10], [0], fault(8), fault(8), [-5], [-4]])

    def test_a_refused_call_changes_nothing(self):
        nearly = feeding(strip_of(4, 250))
        for refused in (AT_FAULT, OTHER_WIDTH, strip_of(5, 9), strip_of(4, 7), "strip 4\n3 1\n3 1\n"):
            answered = ask(opening(), nearly, feeding(refused), feeding(strip_of(4, 6)), feeding(strip_of(4, 1)),
                           feeding(refused), LAST, feeding(refused), LAST)
            for k in (7, 5, 2):
                self.assertLess(answered.pop(k)[0], 0)
            self.assertEqual(answered, [[0], [0], [0], [-10], [0], [-4]])


class RowsThatWereBegun(unittest.TestCase):
    """Rows that were begun don't wait any more, but count as fed."""

    def feed(self, how_many):
        return feeding(strip_text(4, how_many * [[]]))

    def test_only_waiting_rows_count_as_waiting(self):
        answered = ask(opening(), self.feed(256), stepping(10), self.feed(11), self.feed(10), self.feed(1), stepping(1),
                       self.feed(2), self.feed(1), self.feed(1))
        self.assertEqual(answered, [[0], [0], [0], [-10], [0], [-10], [0], [-10], [0], [-10]])

    def test_a_row_whose_events_are_untold_does_not_wait(self):
        rows = strip_text(4, [[0]] + 255 * [[]])
        self.assertEqual(ask(opening(), feeding(rows), self.feed(1), stepping(1, 0), self.feed(1), self.feed(1)),
                         [[0], [0], [-10], [3], [0], [-10]])

    def test_at_most_512_fed(self):
        answered = ask(opening(), self.feed(256), stepping(256), self.feed(255), stepping(244), self.feed(2), self.feed(1),
                       self.feed(1), self.feed(0), STEP_ON, self.feed(1), self.feed(0), NOW)
        self.assertEqual(answered[:-1], [[0], [0], [0], [0], [0], [-10], [0], [-10], [0], [1], [-10], [0]])
        self.assertEqual(list_of(answered[-1])[:4], [512, 0, 0, 0])

    def test_rows_of_refused_strips_were_not_fed(self):
        answered = ask(opening(), self.feed(200), stepping(200), self.feed(200), self.feed(200), stepping(200), self.feed(113),
                       self.feed(112), self.feed(1))
        self.assertEqual(answered, [[0], [0], [0], [0], [-10], [0], [-10], [0], [-10]])

    def test_a_new_player_has_room_again(self):
        full = [self.feed(256), STEP_ON, self.feed(256), STEP_ON]
        self.assertEqual(ask(opening(), *full, self.feed(1), opening(), *full, self.feed(1)),
                         2 * [[0], [0], [1], [0], [1], [-10]])


class WhenDone(unittest.TestCase):
    BY_ROWS = [opening(), feeding("strip 4\n1 0\n"), LAST, STEP_ON]
    BY_END = [opening(), feeding("strip 4\n1 3\n9 0\n"), STEP_ON]

    def test_feeding_and_last(self):
        for calls in (self.BY_ROWS, self.BY_END):
            answered = ask(*calls, feeding("strip 4\n"), feeding("strip 4\n256\n"), feeding(), LAST, LAST)
            self.assertEqual(answered[-6][0], 2)
            self.assertEqual(answered[-5:], 5 * [[-4]])

    def test_refusals_that_come_before(self):
        for calls in (self.BY_ROWS, self.BY_END):
            self.assertEqual(ask(*calls, feeding(AT_FAULT), feeding(OTHER_WIDTH))[-2:], [fault(8), [-5]])

    def test_refused_so_before_too_many_rows(self):
        calls = [opening(), feeding("strip 4\n1 3\n255 0\n"), feeding("strip 4\n2\n"), STEP_ON, feeding("strip 4\n2\n")]
        self.assertEqual([answer[0] for answer in ask(*calls)], [0, 0, -10, 2, -4])

    def test_the_end_is_begun_but_not_told(self):
        start = [opening(), feeding("strip 4\n1 3\n")]
        self.assertEqual(ask(*start, stepping(1, 0), feeding(), LAST, LAST)[2:], [[3], [0], [0], [-4]])
        self.assertEqual(ask(*start, stepping(1, 0), feeding(), stepping(0, 1), feeding(), LAST)[5:], [[-4], [-4]])

    def test_open_in_place_of_what_was(self):
        for calls in (self.BY_ROWS, self.BY_END):
            self.assertEqual(ask(*calls, opening(), feeding(), LAST)[-3:], [[0], [0], [0]])


class Last(unittest.TestCase):
    def test_twice(self):
        self.assertEqual(ask(opening(), LAST, LAST, LAST), [[0], [0], [-4], [-4]])
        self.assertEqual(ask(opening(), feeding(), LAST, LAST), [[0], [0], [0], [-4]])

    def test_behind_a_refused_feeding(self):
        for refused in (AT_FAULT, OTHER_WIDTH, ""):
            answered = ask(opening(), feeding(refused), LAST, feeding(refused), LAST)
            self.assertEqual(answered[2::2], [[0], [-4]])


if __name__ == "__main__":
    unittest.main()
