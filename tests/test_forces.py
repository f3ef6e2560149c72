import unittest

from tests.helper import LAST, NOW, PLAIN_SPOOL, ask, bar_text, feeding, list_of, opening, play, stepping, strip_text

MEANINGS = ["key 10", "key 100", "loud", "soft"] + [
    f"{word} {side}" for side in (0, 1) for word in ("lock 0", "lock 1", "lock 2", "cancel", "up", "down", "accent")
]
WIDTH = len(MEANINGS)


def tracks(row):
    return [MEANINGS.index(meaning) for meaning in row.split(", ") if meaning]


def values(rows, behind=0, **numbers):
    """Of each row, and of some behind the last one, lock values and swells, those of side 0 first."""
    strip = strip_text(WIDTH, [tracks(row) for row in rows])
    start = [opening(bar_text(MEANINGS, **numbers), PLAIN_SPOOL), feeding(strip), LAST]
    answered = ask(*start, *(len(rows) + behind) * [stepping(1), NOW])
    return [tuple(list_of(answer)[5:9]) for answer in answered[4::2]]


def locks(rows, behind=0, **numbers):
    return [value[:2] for value in values(rows, behind, **numbers)]


def swells(rows, behind=0, **numbers):
    return [value[2:] for value in values(rows, behind, **numbers)]


def strikes(rows, **numbers):
    """The row, the key and the force of each key struck."""
    events = play(bar_text(MEANINGS, **numbers), WIDTH, [tracks(row) for row in rows])
    return [(event[3], event[1], event[2]) for event in events if event[0] == 2]


class Locks(unittest.TestCase):
    def test_each_has_its_weight_and_its_side(self):
        for lock, weight in enumerate((1, 2, 4)):
            self.assertEqual(locks([f"lock {lock} 0"]), [(weight, 0)])
            self.assertEqual(locks([f"lock {lock} 1"]), [(0, weight)])

    def test_they_add_up_and_stay(self):
        self.assertEqual(locks(["lock 0 0", "", "lock 2 0", "lock 1 1", "lock 1 0, lock 2 1", "lock 0 0", "", ""]),
                         [(1, 0), (1, 0), (5, 0), (5, 2), (7, 6), (7, 6), (7, 6), (7, 6)])

    def test_cancel(self):
        self.assertEqual(locks(["lock 0 0, lock 1 0, lock 2 1", "cancel 0", "", "lock 1 0", "cancel 1", "cancel 1"]),
                         [(3, 4), (0, 4), (0, 4), (2, 4), (2, 0), (2, 0)])

    def test_cancel_first_then_locks(self):
        self.assertEqual(locks(["lock 0 0, lock 1 1", "cancel 0, lock 2 0", "cancel 1, lock 0 1, lock 1 1", "cancel 0"]),
                         [(1, 2), (4, 2), (4, 3), (0, 3)])

    def test_as_long_as_the_track_sounds(self):
        # The tail holds cancel over the next rows, and locks win against it as long as they sound themselves.
        self.assertEqual(locks(["lock 0 0", "cancel 0", "", "lock 1 0", "", "", ""], behind=2, tail=2),
                         [(1, 0), (1, 0), (1, 0), (2, 0), (2, 0), (2, 0), (2, 0), (2, 0), (2, 0)])
        self.assertEqual(locks(["lock 0 0", "lock 1 0", "cancel 0"], behind=3, tail=2),
                         [(1, 0), (3, 0), (3, 0), (2, 0), (0, 0), (0, 0)])

    def test_force_by_the_lock_value(self):
        rows = ["key 10, lock 0 0", "", "key 10, key 100, lock 2 0, lock 1 1", "cancel 0", "key 10", "lock 0 0", "key 100"]
        self.assertEqual(strikes(rows, force=(3, 10, 0)), [
            (0, 10, 13), (2, 10, 53), (2, 100, 23), (4, 10, 3), (6, 100, 23),
        ])

    def test_all_locks(self):
        row = "key 10, key 100, lock 0 0, lock 1 0, lock 2 0, lock 0 1, lock 1 1, lock 2 1"
        self.assertEqual(strikes([row], force=(5, 17, 0)), [(0, 10, 124), (0, 100, 124)])


class Swells(unittest.TestCase):
    def test_up_to_the_most(self):
        self.assertEqual(swells(["up 0"] * 4, swell=(100, 40, 7)), [(40, 0), (80, 0), (100, 0), (100, 0)])
        self.assertEqual(swells(["up 1"] * 3, swell=(80, 40, 7)), [(0, 40), (0, 80), (0, 80)])

    def test_down_to_0(self):
        rows = ["up 0, up 1"] * 2 + ["down 0"] * 3 + ["down 1"] * 2
        self.assertEqual(swells(rows, swell=(1023, 10, 8)),
                         [(10, 10), (20, 20), (12, 20), (4, 20), (0, 20), (0, 12), (0, 4)])
        self.assertEqual(swells(["down 0, down 1"] * 2, swell=(1023, 10, 8)), [(0, 0), (0, 0)])

    def test_both_at_once(self):
        rows = ["up 0, up 1", "up 0, down 0, up 1", "up 0, down 0, up 1, down 1", "down 0, up 1, down 1"]
        self.assertEqual(swells(rows, swell=(1023, 100, 30)), [(100, 100), (100, 200), (100, 200), (70, 200)])

    def test_a_most_of_0(self):
        self.assertEqual(swells(["up 0", "down 0", "up 1"], swell=(0, 1023, 1023)), [(0, 0)] * 3)

    def test_steps_of_0(self):
        self.assertEqual(swells(["up 0", "up 1", "down 0"], swell=(1023, 0, 5)), [(0, 0)] * 3)
        self.assertEqual(swells(["up 0", "down 0", "up 1", "down 1"], swell=(1023, 9, 0)), [(9, 0), (9, 0), (9, 9), (9, 9)])

    def test_the_greatest_numbers(self):
        self.assertEqual(swells(["up 0", "up 0", "down 0", "down 0"], swell=(1023, 1023, 1022)),
                         [(1023, 0), (1023, 0), (1, 0), (0, 0)])

    def test_as_long_as_the_track_sounds(self):
        self.assertEqual(swells(["up 0", "", "", "", "", "down 0"], behind=4, tail=3, swell=(1000, 10, 4)),
                         [(10, 0), (20, 0), (30, 0), (40, 0), (40, 0), (36, 0), (32, 0), (28, 0), (24, 0), (24, 0)])

    def test_up_begins_while_down_goes_on(self):
        self.assertEqual(swells(["up 1", "", "down 1", "up 1", ""], behind=2, tail=1, swell=(1000, 10, 4)),
                         [(0, 10), (0, 20), (0, 16), (0, 16), (0, 26), (0, 26), (0, 26)])

    def test_force_by_an_eighth_rounded_down(self):
        for swell, force in ((0, 20), (7, 20), (8, 21), (15, 21), (16, 22), (100, 32), (855, 126), (856, 127), (1023, 127)):
            self.assertEqual(strikes(["up 0, key 10, key 100"], force=(20, 0, 0), swell=(1023, swell, 0)),
                             [(0, 10, force), (0, 100, 20)])
            self.assertEqual(strikes(["up 1, key 10, key 100"], force=(20, 0, 0), swell=(swell, 1023, 0)),
                             [(0, 10, 20), (0, 100, force)])

    def test_swell_and_locks_round_by_themselves(self):
        rows = ["up 0, lock 1 0, key 10", "up 0, accent 0", "up 0, key 10"]
        self.assertEqual(strikes(rows, force=(1, 3, 50), swell=(100, 9, 0)), [(0, 10, 8), (2, 10, 10)])


class Accent(unittest.TestCase):
    def test_of_its_side_alone(self):
        self.assertEqual(strikes(["accent 0, key 10, key 100"], force=(40, 0, 25)), [(0, 10, 65), (0, 100, 40)])
        self.assertEqual(strikes(["accent 1, key 10, key 100"], force=(40, 0, 25)), [(0, 10, 40), (0, 100, 65)])
        self.assertEqual(strikes(["accent 0, accent 1, key 10, key 100"], force=(40, 0, 25)), [(0, 10, 65), (0, 100, 65)])

    def test_not_kept(self):
        self.assertEqual(strikes(["accent 0, key 10", "", "key 10"], force=(40, 0, 25)), [(0, 10, 65), (2, 10, 40)])
        self.assertEqual(strikes(["accent 0", "key 10"], force=(40, 0, 25)), [(1, 10, 40)])

    def test_as_long_as_the_track_sounds(self):
        self.assertEqual(strikes(["accent 0", "", "key 10"], tail=2, force=(40, 0, 25)), [(2, 10, 65)])
        self.assertEqual(strikes(["accent 0", "", "key 10"], tail=1, force=(40, 0, 25)), [(2, 10, 40)])

    def test_none_for_a_key_that_goes_on(self):
        self.assertEqual(strikes(["key 10", "key 10, accent 0"], force=(40, 0, 25)), [(0, 10, 40)])


class Soft(unittest.TestCase):
    def test_a_quarter_less_rounded_down(self):
        for base, force in ((0, 0), (1, 1), (3, 3), (4, 3), (5, 4), (7, 6), (8, 6), (40, 30), (126, 95), (127, 96)):
            self.assertEqual(strikes(["soft, key 10, key 100"], force=(base, 0, 0)), [(0, 10, force), (0, 100, force)])

    def test_of_the_whole_force(self):
        row = "soft, key 10, lock 0 0, up 0, accent 0"
        self.assertEqual(strikes([row], force=(10, 7, 5), swell=(100, 17, 0)), [(0, 10, 18)])

    def test_behind_the_most_of_127(self):
        self.assertEqual(strikes(["soft, key 10, accent 0"], force=(127, 0, 127)), [(0, 10, 96)])

    def test_as_long_as_the_track_sounds(self):
        self.assertEqual(strikes(["soft", "", "key 10", "", "", "key 10"], tail=1, force=(40, 0, 0)),
                         [(2, 10, 40), (5, 10, 40)])
        self.assertEqual(strikes(["soft", "key 10", "", "key 100"], tail=1, force=(40, 0, 0)),
                         [(1, 10, 30), (3, 100, 40)])

    def test_loud_changes_no_force(self):
        self.assertEqual(strikes(["loud, key 10"], force=(40, 0, 0)), [(0, 10, 40)])


class TheMost(unittest.TestCase):
    def test_127(self):
        self.assertEqual(strikes(["key 10"], force=(127, 0, 0)), [(0, 10, 127)])
        self.assertEqual(strikes(["key 10, accent 0"], force=(127, 0, 1)), [(0, 10, 127)])
        self.assertEqual(strikes(["key 10, accent 0"], force=(100, 0, 27)), [(0, 10, 127)])
        self.assertEqual(strikes(["key 10, accent 0"], force=(100, 0, 28)), [(0, 10, 127)])
        self.assertEqual(strikes(["key 10, lock 2 0"], force=(127, 127, 127)), [(0, 10, 127)])
        self.assertEqual(strikes(["key 100, up 1, key 10"], force=(7, 0, 0), swell=(1023, 1023, 0)),
                         [(0, 10, 7), (0, 100, 127)])

    def test_an_accent_above_127_is_not_kept_below_the_locks(self):
        # The most holds for the sum, not for its parts.
        row = "key 10, lock 0 0, lock 1 0, lock 2 0, soft"
        self.assertEqual(strikes([row], force=(127, 127, 0)), [(0, 10, 96)])


class Split(unittest.TestCase):
    def sides(self, split, keys):
        meanings = [f"key {key}" for key in keys] + ["accent 1"]
        bar = bar_text(meanings, split=split, force=(10, 0, 5))
        events = play(bar, len(meanings), [list(range(len(meanings)))])
        return [(event[1], event[2] // 5 - 2) for event in events if event[0] == 2]

    def test_below_it_and_at_it(self):
        self.assertEqual(self.sides(60, (59, 60, 61)), [(59, 0), (60, 1), (61, 1)])

    def test_at_its_ends(self):
        self.assertEqual(self.sides(0, (0, 127)), [(0, 1), (127, 1)])
        self.assertEqual(self.sides(1, (0, 1)), [(0, 0), (1, 1)])
        self.assertEqual(self.sides(127, (126, 127)), [(126, 0), (127, 1)])
        self.assertEqual(self.sides(128, (0, 127)), [(0, 0), (127, 0)])


class AtWhichRow(unittest.TestCase):
    def test_the_force_is_that_of_the_row_it_begins_at(self):
        rows = ["key 10", "lock 2 0", "", "key 10, lock 0 1", "cancel 0", "key 100"]
        self.assertEqual(strikes(rows, force=(1, 10, 0)), [(0, 10, 1), (3, 10, 41), (5, 100, 11)])

    def test_rows_that_are_told_later_keep_their_force(self):
        strip = strip_text(WIDTH, [tracks("key 10, key 100, lock 0 0"), tracks("lock 1 0, lock 1 1")])
        answered = ask(opening(bar_text(MEANINGS, force=(1, 10, 0)), PLAIN_SPOOL), feeding(strip), stepping(1, 1), stepping(9, 1))
        self.assertEqual([list_of(answer) for answer in answered[2:]], [[2, 10, 11, 0, 0], [2, 100, 1, 0, 0]])

    def test_other_events_have_none(self):
        events = play(bar_text(MEANINGS + ["end"], force=(99, 0, 0)), WIDTH + 1, [[0, 2, 3], [], [WIDTH]])
        self.assertEqual([event[:3] for event in events if event[0] != 2],
                         [(3, 0, 0), (5, 0, 0), (1, 10, 0), (4, 0, 0), (6, 0, 0), (7, 0, 0)])


if __name__ == "__main__":
    unittest.main()
