"""What is promised over all calls: G1, G2, G3, and lists at the bounds of the interface."""

import random
import unittest

from paperroll.player import answers
from tests.helper import (
    GREATEST, HEAD, LAST, LEVER, NOW, PLAIN_SPOOL, SPOOL, STEP_ON, ask, bar_text, events_of, feeding, lever, list_of,
    opening, play, stepping, strip_text, take_apart,
)

SIDED = ["lock 0", "lock 1", "lock 2", "cancel", "up", "down", "accent"]
OTHERS = ["loud", "soft"] + [f"{word} {side}" for word in SIDED for side in (0, 1)]


def tones(width, rows, tail):
    """Of each track the tones, each its first row and its end."""
    found = []
    for track in range(width):
        sounding = [any(track in row for row in rows[max(i - tail, 0):i + 1]) for i in range(len(rows) + tail + 1)]
        for i in range(len(sounding)):
            if sounding[i] and (i == 0 or not sounding[i - 1]):
                found.append((track, i, sounding.index(False, i)))
    return found


def changes_by_tones(meanings, rows, tail):
    """Kinds, keys and rows of all events of a bar without an end, without forces and times."""
    found = []
    for track, first, end in tones(len(meanings), rows, tail):
        words = meanings[track].split()
        if words[:1] == ["key"]:
            found += [(first, 3, 2, int(words[1])), (end, 1, 1, int(words[1]))]
        if words == ["loud"]:
            found += [(first, 2, 3, 0), (end, 2, 4, 0)]
        if words == ["soft"]:
            found += [(first, 2, 5, 0), (end, 2, 6, 0)]
    return [(kind, key, row) for row, place, kind, key in sorted(found, key=lambda change: (change[0], change[1], change[2:]))]


class Paper:
    """A bar, a spool and rows, drawn by a seed."""

    def __init__(self, seed, with_end=False):
        draw = random.Random(seed)
        keys = [f"key {key}" for key in draw.sample(range(128), 20)]
        self.meanings = draw.sample(keys + OTHERS + ["", "", ""], 25) + with_end * ["end"]
        self.tail = draw.choice((0, 0, 1, 2, 15))
        self.width = len(self.meanings)
        self.bar = bar_text(self.meanings, tail=self.tail, split=draw.randrange(129), force=(20, 9, 30),
                            swell=(draw.choice((50, 800)), draw.randrange(60), draw.randrange(60)))
        self.spool = (draw.randint(1, 5000), draw.choice((0, 1, 700)), draw.randint(1, 5000), draw.randint(1, 60000000))
        thickness = draw.choice((0.02, 0.2, 0.6))
        self.rows = [[track for track in range(25) if draw.random() < thickness] for row in range(draw.randint(1, 120))]
        if with_end:
            self.rows[draw.randrange(len(self.rows))].append(self.width - 1)
        self.draw = draw

    def at_once(self):
        return play(self.bar, self.width, self.rows, self.spool)

    def in_pieces(self):
        """The same rows, fed and stepped in pieces that are drawn."""
        draw = self.draw
        calls = [opening(self.bar, self.spool)]
        fed = 0
        while fed < len(self.rows):
            behind = min(fed + draw.choice((0, 1, 1, 2, 7, 50)), len(self.rows))
            calls.append(feeding(strip_text(self.width, self.rows[fed:behind])))
            fed = behind
            while draw.random() < 0.5:
                calls.append(stepping(draw.choice((0, 1, 2, 9, GREATEST)), draw.choice((0, 1, 2, 9, GREATEST))))
        calls += [LAST] + 40 * [stepping(draw.choice((1, 2)), draw.choice((1, 5)))] + 12 * [STEP_ON]
        answered = ask(*calls)
        if answered[-1] != [2]:
            raise AssertionError("not played to its end")
        return [event for answer in answered for event in (events_of(answer) if len(answer) > 1 else [])]


class G1(unittest.TestCase):
    def test_the_same_however_cut(self):
        for seed in range(60):
            paper = Paper(seed, with_end=seed % 4 == 3)
            told = paper.at_once()
            for piece in range(3):
                self.assertEqual(paper.in_pieces(), told, seed)

    def test_what_the_rows_say(self):
        for seed in range(60):
            paper = Paper(seed)
            told = [(event[0], event[1], event[3]) for event in paper.at_once()]
            self.assertEqual(told, changes_by_tones(paper.meanings, paper.rows, paper.tail), seed)

    def test_nothing_behind_the_end(self):
        for seed in range(40):
            paper = Paper(seed, with_end=True)
            told = paper.at_once()
            self.assertEqual([event[0] for event in told].index(7), len(told) - 1)
            end_row = told[-1][3]
            self.assertIn(paper.width - 1, paper.rows[end_row])
            without = changes_by_tones(paper.meanings[:-1] + [""], paper.rows, paper.tail)
            self.assertEqual([(event[0], event[1], event[3]) for event in told[:-1]],
                             [change for change in without if change[2] <= end_row])

    def test_each_row_fed_by_itself_and_stepped_by_itself(self):
        rows = [[0], [0, 1], [], [2], [], []]
        whole = ask(opening(), feeding(strip_text(4, rows)), LAST, STEP_ON)[3]
        calls = [opening()]
        for row in rows:
            calls += [feeding(strip_text(4, [row])), stepping(1, 1), stepping(0, 1), stepping(0, 1), stepping(0, 1)]
        answered = ask(*calls, LAST, STEP_ON)
        told = [event for answer in answered for event in events_of(answer)]
        self.assertEqual(told, events_of(whole))

    def test_512_rows_in_two_halves_or_many(self):
        rows = [[row % 3] for row in range(512)]
        halves = ask(opening(), feeding(strip_text(4, rows[:256])), *3 * [STEP_ON], feeding(strip_text(4, rows[256:])), LAST,
                     *3 * [STEP_ON])
        many = ask(opening(), *[call for k in range(0, 512, 8) for call in (feeding(strip_text(4, rows[k:k + 8])), stepping(5))],
                   LAST, *3 * [STEP_ON])
        self.assertEqual(halves[-1], [2])
        self.assertEqual(many[-1], [2])
        told = [[event for answer in answered for event in events_of(answer)] for answered in (halves, many)]
        self.assertEqual(told[0], told[1])
        self.assertEqual(told[0][-1][3], 513)

    def test_the_lever_changes_times_alone(self):
        for seed in range(20):
            paper = Paper(seed)
            plain = paper.at_once()
            calls = [call for k in range(130) for call in (stepping(1), lever(paper.draw.randint(1, 60000000)))]
            answered = ask(opening(paper.bar, paper.spool), feeding(strip_text(paper.width, paper.rows)), LAST, *calls,
                           *9 * [STEP_ON])
            told = [event for answer in answered for event in events_of(answer)]
            self.assertEqual([event[:4] for event in told], [event[:4] for event in plain])


class G2(unittest.TestCase):
    def check(self, events):
        """Every key in turn struck and let go; gives back the keys that are still down."""
        down = []
        for kind, key, force, row, time in events:
            if kind == 2:
                self.assertNotIn(key, down)
                down.append(key)
            if kind == 1:
                self.assertIn(key, down)
                down.remove(key)
        return down

    def test_let_go_before_struck_again(self):
        for seed in range(60):
            self.assertEqual(self.check(Paper(seed).at_once()), [], seed)
            self.check(Paper(seed, with_end=True).at_once())
            self.assertEqual(self.check(Paper(seed).in_pieces()), [], seed)

    def test_a_key_again_and_again(self):
        for tail in range(4):
            bar = bar_text(["key 60"], tail=tail)
            for gap in range(6):
                events = play(bar, 1, ([[0]] + gap * [[]]) * 5)
                self.assertEqual(self.check(events), [])
                self.assertEqual(len(events), 10 if gap > tail else 2)

    def test_a_refused_feeding_between(self):
        events = []
        for answer in ask(opening(), feeding("strip 4\n1 0\n"), STEP_ON, feeding("strip 4\n1 0\n1 0\n"), feeding("strip 4\n3\n"),
                          STEP_ON, feeding("strip 4\n1 0\n"), LAST, STEP_ON):
            events += events_of(answer) if answer[0] >= 0 else []
        self.assertEqual([event[:2] + event[3:4] for event in events], [(2, 60, 0), (1, 60, 2), (2, 60, 4), (1, 60, 6)])
        self.assertEqual(self.check(events), [])


class G3(unittest.TestCase):
    # Refused whenever there is a player with a bar of width 25.
    ALWAYS = (
        opening(""), opening(HEAD + "x"), opening(HEAD, (0, 0, 1, 1)), opening(HEAD, (1, 10001, 1, 1)),
        opening(HEAD, (1, 0, 100001, 1)), opening(HEAD, (1, 0, 1, 60000001)), opening(HEAD, (1, 0, 1, 0)),
        feeding(""), feeding("strip 25\n1 0\n1 0\n"), feeding("strip 25\n0\n"), feeding("strip 25\n257\n"),
        feeding("strip 24\n"), feeding("strip 24\n1 0\n"), feeding("strip 26\n1 0\n"), lever(0), lever(60000001), lever(GREATEST),
    )
    BEHIND_LAST = (LAST, feeding("strip 25\n"), feeding("strip 25\n1 0\n"), feeding("strip 25\n256 0 1 2\n"))

    def check(self, calls, refused):
        plain = ask(*calls)
        mixed = []
        for call in calls:
            mixed += [call, NOW, refused, NOW]
        answered = ask(*mixed)
        # Before the player is opened now is refused itself, so the first call is the one that opens it.
        self.assertEqual(answered[0::4], plain)
        self.assertEqual(answered[1::4], answered[3::4])
        for answer in answered[2::4]:
            self.assertLess(answer[0], 0, refused[:20])

    def pieces(self, paper):
        strip = feeding(strip_text(paper.width, paper.rows[:60]))
        return [opening(paper.bar, paper.spool), strip, stepping(3, 2), stepping(1, 1), LEVER, stepping(9, 9), lever(12345)]

    def test_on_the_way(self):
        for seed in range(6):
            paper = Paper(seed)
            for refused in self.ALWAYS:
                self.check(self.pieces(paper) + [LAST, stepping(50, 1), stepping(2, 3)] + 8 * [STEP_ON], refused)

    def test_behind_last(self):
        for seed in range(6):
            paper = Paper(seed)
            before = [number for call in self.pieces(paper) + [LAST] for number in call]
            for refused in self.ALWAYS + self.BEHIND_LAST:
                calls = [stepping(1, 1), stepping(50, 1), stepping(2, 3), LEVER] + 6 * [STEP_ON]
                plain = ask(before, *calls)
                answered = ask(before, *[number for call in calls for number in (NOW, refused, NOW, call)])
                self.assertEqual(answered[8 + 3::4], plain[8:])
                self.assertEqual(answered[8::4], answered[8 + 2::4])
                for answer in answered[8 + 1::4]:
                    self.assertLess(answer[0], 0)

    def test_too_many_rows(self):
        full = feeding(strip_text(25, [[row % 25] for row in range(250)]))
        for refused in (feeding("strip 25\n256\n"), feeding("strip 25\n200 3\n56 4\n"), feeding("strip 25\n256 1 2 3\n")):
            bar = bar_text([f"key {key}" for key in range(25)])
            plain = ask(opening(bar), full, stepping(3, 2), stepping(9), LAST, STEP_ON, STEP_ON)
            answered = ask(opening(bar), full, refused, NOW, stepping(3, 2), refused, NOW, stepping(9), NOW, refused, NOW, LAST,
                           STEP_ON, STEP_ON)
            self.assertEqual([answered[2], answered[5], answered[9]], [[-10]] * 3)
            self.assertEqual(list_of(answered[3])[:3], [0, 250, 0])
            self.assertEqual(answered[8], answered[10])
            self.assertEqual([answered[k] for k in (0, 1, 4, 7, 11, 12, 13)], plain)

    def test_when_done(self):
        bar = bar_text(["key 1", "end"])
        by_rows = [opening(bar), feeding("strip 2\n1 0\n"), LAST, STEP_ON]
        by_end = [opening(bar), feeding("strip 2\n1 0 1\n1 0\n"), STEP_ON]
        refusals = (LAST, feeding("strip 2\n"), feeding("strip 2\n1 0\n"), feeding("strip 1\n"), feeding("strip 2"), lever(0),
                    opening("bar"), opening(bar, (0, 0, 0, 0)))
        for calls in (by_rows, by_end):
            for refused in refusals:
                answered = ask(*calls, NOW, refused, NOW, STEP_ON, refused, NOW)
                self.assertLess(answered[-5][0], 0)
                self.assertLess(answered[-2][0], 0)
                self.assertEqual(answered[-6], answered[-4])
                self.assertEqual(answered[-6], answered[-1])
                self.assertEqual(answered[-3], [2])

    def test_without_a_player(self):
        refused = [feeding(), LAST, stepping(1, 1), LEVER, NOW, opening("bar"), opening(HEAD, (0, 0, 0, 0))]
        calls = [opening(), NOW, feeding(), STEP_ON, NOW]
        answered = ask(*refused, *calls)
        self.assertEqual([answer[0] for answer in answered[:7]], [-8, -8, -8, -8, -8, -6, -1])
        self.assertEqual(answered[7:], ask(*calls))


class AtTheBounds(unittest.TestCase):
    KEYS = bar_text([f"key {127 - track}" for track in range(128)], tail=0, force=(127, 0, 0))

    def test_many_events(self):
        every = "".join(f" {track}" for track in range(128))
        strip = feeding("strip 128\n" + 20 * f"1{every}\n1\n")
        calls = [opening(self.KEYS, PLAIN_SPOOL)] + 3 * [strip, *11 * [STEP_ON]] + [LAST, STEP_ON]
        numbers = [number for call in calls for number in call]
        self.assertTrue(25000 < len(numbers) <= 30000)
        answered = take_apart(answers(numbers))
        events = [event for answer in answered for event in events_of(answer)]
        expected = [(2, key, 127, row, row) if row % 2 == 0 else (1, key, 0, row, row)
                    for row in range(120) for key in range(128)]
        self.assertEqual(events, expected)
        self.assertEqual(answered[-1], [2])

    def test_512_rows_full_of_holes(self):
        row = "256" + "".join(f" {track}" for track in range(128)) + "\n"
        calls = [opening(self.KEYS, PLAIN_SPOOL), *2 * [feeding("strip 128\n" + row), STEP_ON], LAST, STEP_ON, NOW]
        answered = ask(*calls)
        self.assertEqual(events_of(answered[2]), [(2, key, 127, 0, 0) for key in range(128)])
        self.assertEqual(answered[4], [1])
        self.assertEqual(events_of(answered[6]), [(1, key, 0, 512, 512) for key in range(128)])

    def test_many_players(self):
        rows = "strip 128\n256" + "".join(f" {track}" for track in range(128)) + "\n"
        one_player = [opening(HEAD), feeding(rows), STEP_ON, feeding(rows), LAST, STEP_ON, NOW]
        numbers = [number for call in one_player for number in call]
        how_many = 30000 // len(numbers)
        answered = take_apart(answers(how_many * numbers))
        self.assertEqual(answered, how_many * ask(*one_player))
        self.assertEqual(list_of(answered[6]), [513, 0, 0, 2, 5120000, 0, 0, 0, 0])

    def test_400_calls(self):
        bar = bar_text(["key 1"], tail=15)
        calls = [opening(bar, (1, 1, 100000, 60000000)), feeding("strip 1\n256 0\n")]
        calls += 197 * [stepping(1, GREATEST), lever(60000000)] + [stepping(GREATEST, 1), LAST]
        answered = ask(*calls, stepping(GREATEST, GREATEST), NOW)
        self.assertEqual(len(answered), 400)
        self.assertEqual([answer[0] for answer in answered], 396 * [0] + [1, 0, 2, 0])
        self.assertEqual(list_of(answered[-1])[:4], [272, 0, 0, 2])

    def test_a_list_of_30000_numbers(self):
        strip = "strip 128\n" + "".join(f"1 {row % 2} {row % 120 + 2} 127\n" for row in range(256))
        calls = [opening(self.KEYS, SPOOL), feeding(strip)] + 3 * [STEP_ON]
        numbers = [number for part in calls for number in part]
        text = "strip 128\n" + "9" * (30000 - len(numbers) - 12)
        numbers += feeding(text)
        self.assertEqual(len(numbers), 30000)
        answered = take_apart(answers(numbers))
        self.assertEqual(answered[-1], [-6, 1, 10, 0])
        self.assertEqual([len(events_of(answer)) for answer in answered[2:5]], [512, 511, 0])
        self.assertEqual([answer[0] for answer in answered[2:5]], [3, 1, 1])


if __name__ == "__main__":
    unittest.main()
