import unittest

from tests.helper import (
    LAST, LEVER, NOW, PLAIN_SPOOL, STEP_ON, ask, bar_text, feeding, lever, list_of, opening, stepping, strip_text,
)

MEANINGS = ["key 9", "", "lock 1 0", "lock 2 1", "up 0", "up 1", "key 3", "end"]
WIDTH = len(MEANINGS)


def begin(rows, tail=0):
    bar = bar_text(MEANINGS, tail=tail, swell=(100, 30, 10))
    return opening(bar, PLAIN_SPOOL) + feeding(strip_text(WIDTH, rows))


def nows(start, *calls):
    """What now tells behind each of the calls."""
    answered = ask(start, *[number for call in calls for number in (call, NOW)])
    for answer in answered[3::2]:
        if answer[0] != 0:
            raise AssertionError("now answers 0")
    return [list_of(answer) for answer in answered[3::2]]


class NewPlayer(unittest.TestCase):
    def test_nothing_yet(self):
        self.assertEqual(ask(opening(), NOW), [[0], [0, 9, 0, 0, 0, 0, 0, 0, 0, 0, 0, 0]])

    def test_rows_fed(self):
        self.assertEqual(list_of(ask(begin([[0], [0], []]), NOW)[2]), [0, 3, 0, 0, 0, 0, 0, 0, 0])
        self.assertEqual(list_of(ask(begin([[0]] * 256), NOW)[2]), [0, 256, 0, 0, 0, 0, 0, 0, 0])

    def test_no_more_rows(self):
        self.assertEqual(list_of(ask(begin([[0]]), LAST, NOW)[3]), [0, 1, 0, 1, 0, 0, 0, 0, 0])
        self.assertEqual(list_of(ask(opening(), LAST, NOW)[2]), [0, 0, 0, 1, 0, 0, 0, 0, 0])

    def test_a_lever_and_steps_that_begin_nothing(self):
        self.assertEqual(nows(begin([[0]]), LEVER, stepping(0, 0), stepping(0)), [[0, 1, 0, 0, 0, 0, 0, 0, 0]] * 3)

    def test_opened_anew(self):
        answered = ask(begin([[0, 2, 3, 4, 5]] * 9), LAST, stepping(3, 1), opening(), NOW)
        self.assertEqual(list_of(answered[5]), [0] * 9)


class OnTheWay(unittest.TestCase):
    def test_row_by_row(self):
        rows = [[0, 1, 2, 4], [3, 5], [], [5, 6]]
        self.assertEqual(nows(begin(rows), *[stepping(1)] * 5), [
            [1, 3, 0, 0, 0, 2, 0, 30, 0, 0, 1, 2, 4],
            [2, 2, 0, 0, 1, 2, 4, 30, 30, 3, 5],
            [3, 1, 0, 0, 2, 2, 4, 30, 30],
            [4, 0, 0, 0, 3, 2, 4, 30, 60, 5, 6],
            [4, 0, 0, 0, 3, 2, 4, 30, 60, 5, 6],
        ])

    def test_in_the_midst_of_a_rows_events(self):
        rows = [[0, 6, 2], [4]]
        self.assertEqual(nows(begin(rows), stepping(9, 0), stepping(9, 1), stepping(9, 2), stepping(9, 1), stepping(9, 1)), [
            [1, 1, 2, 0, 0, 2, 0, 0, 0, 0, 2, 6],
            [1, 1, 1, 0, 0, 2, 0, 0, 0, 0, 2, 6],
            [2, 0, 1, 0, 1, 2, 0, 30, 0, 4],
            [2, 0, 0, 0, 1, 2, 0, 30, 0, 4],
            [2, 0, 0, 0, 1, 2, 0, 30, 0, 4],
        ])

    def test_feeding_and_last_on_the_way(self):
        more = feeding(strip_text(WIDTH, [[1]] * 5))
        self.assertEqual(nows(begin([[0, 6]]), stepping(1, 1), more, LAST, stepping(2), more), [
            [1, 0, 1, 0, 0, 0, 0, 0, 0, 0, 6],
            [1, 5, 1, 0, 0, 0, 0, 0, 0, 0, 6],
            [1, 5, 1, 1, 0, 0, 0, 0, 0, 0, 6],
            [3, 3, 0, 1, 2, 0, 0, 0, 0, 1],
            [3, 3, 0, 1, 2, 0, 0, 0, 0, 1],
        ])

    def test_tracks_that_go_on_sounding(self):
        self.assertEqual([now[9:] for now in nows(begin([[6], [1], [0, 2]], tail=1), LAST, *[stepping(1)] * 5)],
                         [[], [6], [1, 6], [0, 1, 2], [0, 2], []])

    def test_every_track(self):
        bar = bar_text([], width=128)
        answered = ask(opening(bar), feeding(strip_text(128, [list(range(128))])), stepping(1), NOW)
        self.assertEqual(answered[3], [0, 137, 1, 0, 0, 0, 0, 0, 0, 0, 0] + list(range(128)) + [0])

    def test_it_changes_nothing(self):
        rows = [[0, 6], [4], [0]]
        plain = ask(begin(rows), stepping(1, 1), stepping(1, 2), LAST, STEP_ON)
        asked = ask(begin(rows), NOW, NOW, stepping(1, 1), NOW, NOW, stepping(1, 2), NOW, NOW, LAST, NOW, NOW, STEP_ON)
        self.assertEqual(asked[4::3], plain[2:])
        self.assertEqual(asked[2::3], asked[3::3])


class BehindTheLastRow(unittest.TestCase):
    def test_row_by_row(self):
        self.assertEqual(nows(begin([[4], [0, 5]], tail=2), LAST, *[stepping(1)] * 6), [
            [0, 2, 0, 1, 0, 0, 0, 0, 0],
            [1, 1, 0, 1, 0, 0, 0, 30, 0, 4],
            [2, 0, 0, 1, 1, 0, 0, 60, 30, 0, 4, 5],
            [3, 0, 0, 1, 2, 0, 0, 90, 60, 0, 4, 5],
            [4, 0, 0, 1, 3, 0, 0, 90, 90, 0, 5],
            [5, 0, 0, 2, 4, 0, 0, 90, 90],
            [5, 0, 0, 2, 4, 0, 0, 90, 90],
        ])

    def test_without_any_row(self):
        self.assertEqual(nows(begin([], tail=1), LAST, stepping(1), stepping(1)), [
            [0, 0, 0, 1, 0, 0, 0, 0, 0],
            [1, 0, 0, 1, 0, 0, 0, 0, 0],
            [2, 0, 0, 2, 1, 0, 0, 0, 0],
        ])

    def test_done_with_events_untold(self):
        self.assertEqual(nows(begin([[0, 6]]), LAST, stepping(9, 3), stepping(9, 0), stepping(0, 1)), [
            [0, 1, 0, 1, 0, 0, 0, 0, 0],
            [2, 0, 1, 2, 1, 0, 0, 0, 0],
            [2, 0, 1, 2, 1, 0, 0, 0, 0],
            [2, 0, 0, 2, 1, 0, 0, 0, 0],
        ])


class TheEnd(unittest.TestCase):
    def test_rows_that_are_never_begun(self):
        self.assertEqual(nows(begin([[0], [2, 7], [0], [0]]), STEP_ON, STEP_ON, LAST, lever(5)),
                         [[2, 2, 0, 2, 1, 2, 0, 0, 0, 2, 7]] * 4)

    def test_begun_but_untold(self):
        self.assertEqual(nows(begin([[0, 7], [0]]), stepping(9, 1), LAST, stepping(9, 1)), [
            [1, 1, 1, 0, 0, 0, 0, 0, 0, 0, 7],
            [1, 1, 1, 1, 0, 0, 0, 0, 0, 0, 7],
            [1, 1, 0, 2, 0, 0, 0, 0, 0, 0, 7],
        ])


if __name__ == "__main__":
    unittest.main()
