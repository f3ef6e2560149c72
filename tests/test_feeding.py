import unittest

from paperroll.bars import read_bar
from paperroll.playing import Player
from paperroll.spools import Spool
from paperroll.strips import Strip
from tests.helper import BAR, HEAD, LAST, SPOOL, STRIP, ask, fault, feeding, numbers_of, opening, strip_of

OTHER_WIDTH = "strip 5\n"
AT_FAULT = "strip 4\n0\n"


class Feeding(unittest.TestCase):
    def test_the_examples_strip(self):
        self.assertEqual(ask(opening(), feeding(STRIP)), [[0], [0]])

    def test_again_and_again(self):
        self.assertEqual(ask(opening(), *42 * [feeding(STRIP)]), [[0]] * 43)

    def test_without_rows(self):
        self.assertEqual(ask(opening(), feeding("strip 4\n"), LAST), [[0]] * 3)

    def test_rows_stand_behind_those_fed_before(self):
        player = Player(read_bar(numbers_of(BAR)), Spool(SPOOL))
        self.assertEqual(player.feed(Strip(4, [(0,), ()])), 0)
        self.assertEqual(player.feed(Strip(4, [(0, 3)])), 0)
        self.assertEqual(player.rows, [(0,), (), (0, 3)])


class Refused(unittest.TestCase):
    def test_a_fault(self):
        self.assertEqual(ask(opening(), feeding(AT_FAULT)), [[0], fault(8)])

    def test_another_width(self):
        for width in (1, 3, 5, 128):
            self.assertEqual(ask(opening(), feeding(f"strip {width}\n")), [[0], [-5]])
            self.assertEqual(ask(opening(), feeding(strip_of(width, 2))), [[0], [-5]])
        for width in (1, 127):
            self.assertEqual(ask(opening(HEAD), feeding(strip_of(width, 2))), [[0], [-5]])

    def test_behind_last(self):
        self.assertEqual(ask(opening(), LAST, feeding()), [[0], [0], [-4]])
        self.assertEqual(ask(opening(), feeding(), LAST, feeding("strip 4\n")), [[0], [0], [0], [-4]])

    def test_257_waiting(self):
        one = feeding("strip 4\n1\n")
        none = feeding("strip 4\n")
        self.assertEqual(ask(opening(), feeding("strip 4\n256\n"), none, one, none), [[0], [0], [0], [-10], [0]])
        self.assertEqual(ask(opening(), feeding("strip 4\n255\n"), one, one), [[0], [0], [0], [-10]])
        self.assertEqual(ask(opening(), one, feeding("strip 4\n256\n"), feeding("strip 4\n255\n")),
                         [[0], [0], [-10], [0]])

    def test_rows_of_many_calls_count_together(self):
        self.assertEqual(ask(opening(), *257 * [feeding("strip 4\n1\n")]), [[0]] * 257 + [[-10]])
        self.assertEqual(ask(opening(), *44 * [feeding(STRIP)]), [[0]] * 43 + [[-10]] * 2)
        self.assertEqual(ask(opening(), feeding(strip_of(4, 200)), feeding(strip_of(4, 57)), feeding(strip_of(4, 56))),
                         [[0], [0], [-10], [0]])

    def test_the_first_of_two(self):
        full = feeding("strip 4\n256\n")
        answered = ask(opening(), full, feeding(strip_of(5, 1)), feeding(strip_of(4, 1)), LAST,
                       feeding("strip 5\n0\n"), feeding(AT_FAULT), feeding(strip_of(5, 1)), feeding(strip_of(4, 1)))
        self.assertEqual(answered, [[0], [0], [-5], [-10], [0], fault(8), fault(8), [-5], [-4]])

    def test_a_refused_call_changes_nothing(self):
        nearly = feeding(strip_of(4, 250))
        for refused in (AT_FAULT, OTHER_WIDTH, strip_of(5, 9), strip_of(4, 7), "strip 4\n3 1\n3 1\n"):
            answered = ask(opening(), nearly, feeding(refused), feeding(strip_of(4, 6)), feeding(strip_of(4, 1)),
                           feeding(refused), LAST, feeding(refused), LAST)
            for k in (7, 5, 2):
                self.assertLess(answered.pop(k)[0], 0)
            self.assertEqual(answered, [[0], [0], [0], [-10], [0], [-4]])


class RowsThatWereBegun(unittest.TestCase):
    """Rows that were begun don't wait any more, but count as fed."""

    def setUp(self):
        self.player = Player(read_bar(numbers_of(BAR)), Spool(SPOOL))

    def feed(self, how_many):
        return self.player.feed(Strip(4, [()] * how_many))

    def test_only_waiting_rows_count_as_waiting(self):
        self.assertEqual(self.feed(256), 0)
        self.player.begun = 10
        self.assertEqual(self.feed(11), -10)
        self.assertEqual(self.feed(10), 0)
        self.assertEqual(self.feed(1), -10)

    def test_at_most_512_fed(self):
        self.assertEqual(self.feed(256), 0)
        self.player.begun = 256
        self.assertEqual(self.feed(255), 0)
        self.player.begun = 500
        self.assertEqual(self.feed(2), -10)
        self.assertEqual(self.feed(1), 0)
        self.assertEqual(self.feed(1), -10)
        self.assertEqual(self.feed(0), 0)

    def test_done(self):
        self.player.done = True
        self.assertEqual(self.feed(0), -4)
        self.assertEqual(self.feed(257), -4)
        self.assertEqual(self.player.feed(Strip(5, [])), -5)
        self.assertEqual(self.player.end_feeding(), -4)


class Last(unittest.TestCase):
    def test_twice(self):
        self.assertEqual(ask(opening(), LAST, LAST, LAST), [[0], [0], [-4], [-4]])
        self.assertEqual(ask(opening(), feeding(), LAST, LAST), [[0], [0], [0], [-4]])

    def test_behind_a_refused_feeding(self):
        for refused in (AT_FAULT, OTHER_WIDTH, ""):
            answered = ask(opening(), feeding(refused), LAST, feeding(refused), LAST)
            self.assertEqual(answered[2::2], [[0], [-4]])


if __name__ == "__main__":
    unittest.main()
