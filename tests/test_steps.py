import unittest

from tests.helper import (
    BAR, GREATEST, LAST, NOW, PLAIN_SPOOL, SPOOL, STEP_ON, STRIP, ask, bar_text, events_of, feeding, lever, list_of,
    opening, play, stepping, strip_text, told,
)

# Tracks 0 to 3 are keys in another order, then loud, soft and the end.
MEANINGS = ["key 70", "key 10", "key 127", "key 0", "loud", "soft", "end"]
FORCE = (40, 0, 0)


def open_and_feed(rows, tail=0, meanings=MEANINGS):
    bar = bar_text(meanings, tail=tail, force=FORCE)
    return opening(bar, PLAIN_SPOOL) + feeding(strip_text(len(meanings), rows))


def steps(start, *calls):
    """What is told by the calls behind those that open and feed."""
    return [told(answer) for answer in ask(start, *calls)[2:]]


class DocumentsExamples(unittest.TestCase):
    def test_word_for_word(self):
        self.assertEqual(
            ask(opening(BAR, (1000000, 0, 1000, 10000000)), feeding(STRIP), stepping(3, 100), lever(20000000),
                stepping(9, 100)),
            [
                [0],
                [0],
                [0, 10, 2, 60, 40, 0, 0, 2, 61, 40, 1, 10000, 0],
                [0],
                [1, 20, 1, 60, 0, 3, 40000, 1, 61, 0, 3, 40000, 5, 0, 0, 3, 40000, 6, 0, 0, 5, 80000, 0],
            ],
        )

    def test_row_by_row(self):
        answered = ask(opening(), feeding(), *[stepping(1, 9)] * 3, lever(20000000), *[stepping(1, 9)] * 4)
        self.assertEqual([told(answer) for answer in answered[2:]], [
            (0, [(2, 60, 40, 0, 0)]),
            (0, [(2, 61, 40, 1, 10000)]),
            (0, []),
            (0, []),
            (0, [(1, 60, 0, 3, 40000), (1, 61, 0, 3, 40000), (5, 0, 0, 3, 40000)]),
            (0, []),
            (0, [(6, 0, 0, 5, 80000)]),
            (1, []),
        ])


class ItsFourNumbers(unittest.TestCase):
    def test_0_when_k_rows_were_begun(self):
        rows = [[0], [], [0], []]
        self.assertEqual(steps(open_and_feed(rows), stepping(1), stepping(2), stepping(1)), [
            (0, [(2, 70, 40, 0, 0)]),
            (0, [(1, 70, 0, 1, 1), (2, 70, 40, 2, 2)]),
            (0, [(1, 70, 0, 3, 3)]),
        ])

    def test_0_comes_before_1(self):
        self.assertEqual(steps(open_and_feed([[0]]), stepping(1), stepping(0), stepping(1)),
                         [(0, [(2, 70, 40, 0, 0)]), (0, []), (1, [])])

    def test_1_where_the_next_row_is_not_fed(self):
        more = feeding(strip_text(7, [[1], [1]]))
        self.assertEqual(
            steps(open_and_feed([[0]]), STEP_ON, STEP_ON, more, STEP_ON, feeding("strip 7\n"), STEP_ON),
            [(1, [(2, 70, 40, 0, 0)]), (1, []), (0, []), (1, [(1, 70, 0, 1, 1), (2, 10, 40, 1, 1)]), (0, []), (1, [])],
        )

    def test_1_where_nothing_was_fed(self):
        self.assertEqual(ask(opening(), stepping(1, 1), STEP_ON, stepping(1, 0)), [[0], [1], [1], [1]])

    def test_2_when_done_by_all_rows_begun(self):
        self.assertEqual(
            steps(open_and_feed([[0]]), LAST, stepping(1), stepping(1), stepping(1), stepping(0), STEP_ON, stepping(0, 0)),
            [(0, []), (0, [(2, 70, 40, 0, 0)]), (2, [(1, 70, 0, 1, 1)]), (2, []), (2, []), (2, []), (2, [])],
        )

    def test_2_comes_before_0(self):
        # The row behind the last one is the k-th one, and with it the player is done.
        self.assertEqual(steps(open_and_feed([[0]]), LAST, stepping(2))[1][0], 2)
        self.assertEqual(steps(open_and_feed([[0, 6]]), stepping(1)), [(2, [(2, 70, 40, 0, 0), (7, 0, 0, 0, 0)])])

    def test_3_comes_before_2(self):
        start = open_and_feed([[0, 1]])
        self.assertEqual(steps(start, LAST, stepping(9, 3), stepping(0, 0), stepping(9, 1), stepping(9, 1))[1:], [
            (3, [(2, 10, 40, 0, 0), (2, 70, 40, 0, 0), (1, 10, 0, 1, 1)]), (3, []), (2, [(1, 70, 0, 1, 1)]), (2, []),
        ])
        self.assertEqual(list_of(ask(start, LAST, stepping(9, 3), NOW)[-1])[:4], [2, 0, 1, 2])

    def test_3_comes_before_0_and_1(self):
        self.assertEqual(steps(open_and_feed([[0, 1]]), stepping(1, 1), stepping(0, 0), stepping(1, 0)),
                         [(3, [(2, 10, 40, 0, 0)]), (3, []), (3, [])])

    def test_no_3_where_all_are_told(self):
        self.assertEqual(steps(open_and_feed([[0, 1]]), stepping(1, 2))[0][0], 0)
        self.assertEqual(steps(open_and_feed([[0, 1]]), stepping(2, 2))[0][0], 1)
        self.assertEqual(steps(open_and_feed([[0, 6]]), stepping(1, 2))[0][0], 2)


class HowManyRows(unittest.TestCase):
    def test_none(self):
        self.assertEqual(ask(opening(), stepping(0, 0), stepping(0, 9)), [[0], [0], [0]])
        self.assertEqual(steps(open_and_feed([[0]]), stepping(0), stepping(0), stepping(1)),
                         [(0, []), (0, []), (0, [(2, 70, 40, 0, 0)])])

    def test_none_but_events_untold(self):
        self.assertEqual(steps(open_and_feed([[0, 1, 2]]), stepping(1, 1), stepping(0, 1), stepping(0, 9), stepping(0, 9)), [
            (3, [(2, 10, 40, 0, 0)]), (3, [(2, 70, 40, 0, 0)]), (0, [(2, 127, 40, 0, 0)]), (0, []),
        ])

    def test_a_row_begun_in_an_earlier_step_does_not_count(self):
        self.assertEqual(steps(open_and_feed([[0, 1], [], [3]]), stepping(1, 1), stepping(1, 9), stepping(1, 9)), [
            (3, [(2, 10, 40, 0, 0)]),
            (0, [(2, 70, 40, 0, 0), (1, 10, 0, 1, 1), (1, 70, 0, 1, 1)]),
            (0, [(2, 0, 40, 2, 2)]),
        ])

    def test_the_greatest(self):
        self.assertEqual(steps(open_and_feed([[0], []]), stepping(GREATEST, 9)),
                         [(1, [(2, 70, 40, 0, 0), (1, 70, 0, 1, 1)])])

    def test_rows_behind_the_last_one_count(self):
        answered = ask(open_and_feed([[0]], tail=15), LAST, stepping(6), NOW, stepping(10), NOW, stepping(1), NOW)
        self.assertEqual([answer[0] for answer in answered[3::2]], [0, 0, 2])
        self.assertEqual([list_of(answer)[0] for answer in answered[4::2]], [6, 16, 17])


class HowManyEvents(unittest.TestCase):
    def test_none_told_but_rows_begun(self):
        answered = ask(open_and_feed([[], [], [0], []]), stepping(9, 0), NOW, stepping(9, 0), NOW)
        self.assertEqual(answered[2::2], [[3], [3]])
        self.assertEqual(list_of(answered[3])[:3], [3, 1, 1])
        self.assertEqual(answered[3], answered[5])

    def test_none_told_and_no_event(self):
        self.assertEqual(ask(open_and_feed([[], []]), stepping(1, 0), stepping(1, 0), stepping(1, 0))[2:], [[0], [0], [1]])
        self.assertEqual(ask(open_and_feed([[], []]), LAST, stepping(9, 0))[3:], [[2]])

    def test_one_at_a_time(self):
        rows = [[2, 0, 1, 5, 4], [3]]
        every = steps(open_and_feed(rows), STEP_ON)[0][1]
        self.assertEqual(len(every), 11)
        singly = steps(open_and_feed(rows), *[stepping(9, 1)] * 11)
        self.assertEqual(singly, [(3, [event]) for event in every[:-1]] + [(1, [every[-1]])])

    def test_over_rows(self):
        rows = [[0], [1], [2]]
        self.assertEqual([told_now[0] for told_now in steps(open_and_feed(rows), stepping(9, 4), stepping(9, 4))], [3, 1])
        self.assertEqual(steps(open_and_feed(rows), stepping(9, 4))[0][1],
                         [(2, 70, 40, 0, 0), (1, 70, 0, 1, 1), (2, 10, 40, 1, 1), (1, 10, 0, 2, 2)])

    def test_above_512(self):
        keys = [f"key {key}" for key in range(128)]
        rows = [list(range(128)), []] * 6
        for most in (512, 513, 600, 1000, GREATEST):
            first, second, third, fourth = steps(open_and_feed(rows, meanings=keys), *[stepping(9999, most)] * 4)
            self.assertEqual([first[0], second[0], third[0], fourth[0]], [3, 3, 1, 1])
            self.assertEqual([len(part[1]) for part in (first, second, third, fourth)], [512, 512, 512, 0])
            self.assertEqual(first[1][-1], (1, 127, 0, 3, 3))
            self.assertEqual(second[1][0], (2, 0, 40, 4, 4))
        self.assertEqual(len(steps(open_and_feed(rows, meanings=keys), stepping(9999, 511))[0][1]), 511)

    def test_512_and_no_other_untold(self):
        keys = [f"key {key}" for key in range(128)]
        rows = [list(range(128)), []] * 2
        self.assertEqual(steps(open_and_feed(rows, meanings=keys), STEP_ON)[0][0], 1)
        self.assertEqual(steps(open_and_feed(rows, meanings=keys), stepping(4))[0][0], 0)
        # Rows without events are still begun when 512 events have been told.
        answered = ask(open_and_feed(rows + [[], []], meanings=keys), stepping(5, 512), NOW)
        self.assertEqual((answered[2][0], list_of(answered[3])[:3]), (0, [5, 1, 0]))


class OrderOfEvents(unittest.TestCase):
    def test_all_kinds_at_one_row(self):
        meanings = ["key 90", "key 5", "key 91", "key 4", "loud", "soft", "end"]
        self.assertEqual(play(bar_text(meanings), 7, [[0, 1, 4], [2, 3, 5, 6]]), [
            (3, 0, 0, 0, 0), (2, 5, 0, 0, 0), (2, 90, 0, 0, 0),
            (1, 5, 0, 1, 1), (1, 90, 0, 1, 1), (4, 0, 0, 1, 1), (5, 0, 0, 1, 1),
            (2, 4, 0, 1, 1), (2, 91, 0, 1, 1), (7, 0, 0, 1, 1),
        ])

    def test_soft_ends_as_loud_begins(self):
        self.assertEqual(play(bar_text(["soft", "loud"]), 2, [[0], [1], []]), [
            (5, 0, 0, 0, 0), (3, 0, 0, 1, 1), (6, 0, 0, 1, 1), (4, 0, 0, 2, 2),
        ])

    def test_both_pedals_begin_and_end(self):
        self.assertEqual(play(bar_text(["soft", "loud"]), 2, [[0, 1]]), [
            (3, 0, 0, 0, 0), (5, 0, 0, 0, 0), (4, 0, 0, 1, 1), (6, 0, 0, 1, 1),
        ])

    def test_nothing_while_it_goes_on(self):
        self.assertEqual(play(bar_text(["key 1", "loud", "soft"]), 3, [[0, 1, 2]] * 5), [
            (3, 0, 0, 0, 0), (5, 0, 0, 0, 0), (2, 1, 0, 0, 0),
            (1, 1, 0, 5, 5), (4, 0, 0, 5, 5), (6, 0, 0, 5, 5),
        ])

    def test_keys_by_key_not_by_track(self):
        meanings = [f"key {(key * 37) % 128}" for key in range(128)]
        events = play(bar_text(meanings), 128, [list(range(128))])
        self.assertEqual(events, [(2, key, 0, 0, 0) for key in range(128)] + [(1, key, 0, 1, 1) for key in range(128)])

    def test_other_kinds_and_tracks_without_meaning_tell_nothing(self):
        meanings = ["lock 0 0", "lock 2 1", "cancel 0", "up 0", "down 1", "accent 0", "", "", "key 3"]
        self.assertEqual(play(bar_text(meanings), 9, [[0, 1, 2, 3, 4, 5, 6, 7], []]), [])

    def test_a_bar_without_meanings(self):
        self.assertEqual(play(bar_text([], width=3), 3, [[0, 1, 2], [1]]), [])


class Tails(unittest.TestCase):
    def test_tail_0(self):
        self.assertEqual(play(bar_text(["key 9"]), 1, [[0], [], [0], [0]]), [
            (2, 9, 0, 0, 0), (1, 9, 0, 1, 1), (2, 9, 0, 2, 2), (1, 9, 0, 4, 4),
        ])

    def test_tail_15(self):
        rows = [[0]] + 15 * [[]] + [[0]] + 16 * [[]] + [[0]]
        self.assertEqual(play(bar_text(["key 9"], tail=15), 1, rows), [
            (2, 9, 0, 0, 0), (1, 9, 0, 32, 32), (2, 9, 0, 33, 33), (1, 9, 0, 49, 49),
        ])

    def test_every_tail(self):
        for tail in range(16):
            bar = bar_text(["key 9"], tail=tail)
            self.assertEqual(play(bar, 1, [[0]]), [(2, 9, 0, 0, 0), (1, 9, 0, tail + 1, tail + 1)])
            # A gap of the tail's length is filled, one that is longer isn't.
            self.assertEqual(len(play(bar, 1, [[0]] + tail * [[]] + [[0]])), 2)
            self.assertEqual(len(play(bar, 1, [[0]] + (tail + 1) * [[]] + [[0]])), 4)

    def test_rows_behind_the_last_one(self):
        for tail in (0, 1, 7, 15):
            for fed in (0, 1, 5):
                start = open_and_feed([[0]] * fed, tail=tail)
                answered = ask(start, stepping(fed), LAST, stepping(tail), NOW, stepping(1), NOW, STEP_ON, NOW)
                before, behind, at_end = [list_of(answer)[:4] for answer in answered[5::2]]
                self.assertEqual(answered[4], [0])
                self.assertEqual(before, [fed + tail, 0, 0, 1])
                self.assertEqual(behind, [fed + tail + 1, 0, 0, 2])
                self.assertEqual(at_end, behind)
                expected = [(1, 70, 0, fed + tail, fed + tail)] if fed else []
                self.assertEqual(told(answered[6]), (2, expected))
                self.assertEqual(answered[8], [2])

    def test_last_told_before_or_behind_the_rows_were_begun(self):
        rows = [[0], [1], [4]]
        early = ask(open_and_feed(rows, tail=2), LAST, STEP_ON)
        late = ask(open_and_feed(rows, tail=2), STEP_ON, LAST, STEP_ON)
        self.assertEqual(early[3][0], 2)
        self.assertEqual([late[2][0], late[4][0]], [1, 2])
        self.assertEqual(events_of(early[3]), events_of(late[2]) + events_of(late[4]))

    def test_done_with_events_untold(self):
        start = open_and_feed([[0, 1, 4]])
        answered = ask(start, LAST, stepping(9, 3), NOW, stepping(9, 1), NOW, feeding("strip 7\n"), LAST, STEP_ON, NOW, STEP_ON)
        self.assertEqual(told(answered[3]), (3, [(3, 0, 0, 0, 0), (2, 10, 40, 0, 0), (2, 70, 40, 0, 0)]))
        self.assertEqual(list_of(answered[4])[:4], [2, 0, 3, 2])
        self.assertEqual(told(answered[5]), (3, [(1, 10, 0, 1, 1)]))
        self.assertEqual(list_of(answered[6])[:4], [2, 0, 2, 2])
        self.assertEqual(answered[7:9], [[-4], [-4]])
        self.assertEqual(told(answered[9]), (2, [(1, 70, 0, 1, 1), (4, 0, 0, 1, 1)]))
        self.assertEqual(list_of(answered[10])[:4], [2, 0, 0, 2])
        self.assertEqual(answered[11], [2])


class TheEnd(unittest.TestCase):
    def test_in_the_midst_of_a_strip(self):
        rows = [[0], [6], [1], [2], [6]]
        self.assertEqual(steps(open_and_feed(rows), STEP_ON, STEP_ON, stepping(0, 0)),
                         [(2, [(2, 70, 40, 0, 0), (1, 70, 0, 1, 1), (7, 0, 0, 1, 1)]), (2, []), (2, [])])

    def test_nothing_is_begun_behind_it(self):
        answered = ask(open_and_feed([[0], [6], [1], [2]]), STEP_ON, NOW, STEP_ON, NOW, LAST, feeding("strip 7\n"), NOW)
        self.assertEqual(list_of(answered[3]), [2, 2, 0, 2, 1, 0, 0, 0, 0, 6])
        self.assertEqual(answered[4], [2])
        self.assertEqual(answered[5], answered[3])
        self.assertEqual(answered[6:8], [[-4], [-4]])
        self.assertEqual(answered[8], answered[3])

    def test_behind_last_too(self):
        answered = ask(open_and_feed([[6], [1]], tail=3), LAST, STEP_ON, NOW, STEP_ON, NOW)
        self.assertEqual(told(answered[3]), (2, [(7, 0, 0, 0, 0)]))
        self.assertEqual(list_of(answered[4])[:4], [1, 1, 0, 2])
        self.assertEqual(answered[5:], [[2], answered[4]])

    def test_begun_but_not_told_yet(self):
        start = open_and_feed([[0, 6], [1]])
        answered = ask(start, stepping(1, 1), NOW, feeding("strip 7\n1 3\n"), stepping(9, 0), LAST, NOW, stepping(9, 1), NOW)
        self.assertEqual(told(answered[2]), (3, [(2, 70, 40, 0, 0)]))
        self.assertEqual(list_of(answered[3])[:4], [1, 1, 1, 0])
        self.assertEqual(answered[4:7], [[0], [3], [0]])
        self.assertEqual(list_of(answered[7])[:4], [1, 2, 1, 1])
        self.assertEqual(told(answered[8]), (2, [(7, 0, 0, 0, 0)]))
        self.assertEqual(list_of(answered[9])[:4], [1, 2, 0, 2])

    def test_at_the_last_row(self):
        # Rows behind the last one aren't begun any more.
        answered = ask(open_and_feed([[0], [0, 6]], tail=4), LAST, STEP_ON, NOW)
        self.assertEqual(told(answered[3]), (2, [(2, 70, 40, 0, 0), (7, 0, 0, 1, 1)]))
        self.assertEqual(list_of(answered[4])[:4], [2, 0, 0, 2])

    def test_a_bar_without_an_end(self):
        bar = bar_text(["key 1", ""])
        self.assertEqual(play(bar, 2, [[0, 1], [1]]), [(2, 1, 0, 0, 0), (1, 1, 0, 1, 1)])

    def test_refused_behind_it(self):
        start = open_and_feed([[6]])
        for call, answer in ((LAST, [-4]), (feeding("strip 7\n1 0\n"), [-4]), (feeding("strip 7\n"), [-4]),
                             (feeding("strip 6\n"), [-5]), (feeding("strip 7\n0"), [-6, 1, 8, 0]), (lever(0), [-1]),
                             (lever(1), [0])):
            answered = ask(start, STEP_ON, NOW, call, NOW, STEP_ON)
            self.assertEqual(answered[4], answer)
            self.assertEqual(answered[5], answered[3])
            self.assertEqual(answered[6], [2])

    def test_a_new_player_in_its_place(self):
        answered = ask(open_and_feed([[6]]), STEP_ON, opening(), NOW, feeding(), STEP_ON)
        self.assertEqual(list_of(answered[4]), [0] * 9)
        self.assertEqual(answered[6], ask(opening(BAR, SPOOL), feeding(), STEP_ON)[2])


if __name__ == "__main__":
    unittest.main()
