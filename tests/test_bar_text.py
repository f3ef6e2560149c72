import unittest

from paperroll.bars import read_bar
from tests.helper import BAR, HEAD, ask, fault, numbers_of, opening

LINES = HEAD.splitlines(keepends=True)
ALL_KINDS = (
    "0 key 0\n5 key 127\n6 loud\n7 soft\n"
    "8 lock 0 0\n9 lock 0 1\n10 lock 1 0\n11 lock 1 1\n12 lock 2 0\n13 lock 2 1\n"
    "14 cancel 0\n15 cancel 1\n16 up 0\n17 up 1\n18 down 0\n19 down 1\n20 accent 0\n21 accent 1\n127 end\n"
)
KINDS_WITHOUT_NUMBERS = ("loud", "soft", "end")
KINDS_WITH_A_SIDE = ("cancel", "up", "down", "accent")


class BarTest(unittest.TestCase):
    def check_taken(self, text):
        self.assertEqual(ask(opening(text)), [[0]], text)

    def check_fault(self, before, rest):
        """The text is before and rest together, the fault at rest's first byte or at the end."""
        self.assertEqual(ask(opening(before + rest)), [fault(len(before))], (before, rest))


class Taken(BarTest):
    def test_the_examples_bar(self):
        self.check_taken(BAR)
        bar = read_bar(numbers_of(BAR))
        self.assertEqual((bar.width, bar.split, bar.tail), (4, 60, 1))
        self.assertEqual((bar.force, bar.swell), ((40, 10, 20), (0, 0, 0)))
        self.assertEqual(bar.tracks, {(1, 60, 0): 0, (1, 61, 0): 1, (3, 0, 0): 2, (9, 0, 0): 3})

    def test_ends_of_each_range(self):
        self.check_taken("bar 1 0\ntail 0\nforce 0 0 0\nswell 0 0 0\n")
        greatest = "bar 128 128\ntail 15\nforce 127 126 125\nswell 1023 1022 1021\n"
        self.check_taken(greatest)
        bar = read_bar(numbers_of(greatest))
        self.assertEqual((bar.width, bar.split, bar.tail), (128, 128, 15))
        self.assertEqual((bar.force, bar.swell), ((127, 126, 125), (1023, 1022, 1021)))
        self.check_taken("bar 128 128\ntail 15\nforce 127 127 127\nswell 1023 1023 1023\n")

    def test_without_any_track(self):
        self.check_taken(HEAD)
        self.assertEqual(read_bar(numbers_of(HEAD)).tracks, {})

    def test_width_one(self):
        head = "bar 1 128\ntail 3\nforce 1 2 3\nswell 4 5 6\n"
        self.check_taken(head)
        self.check_taken(head + "0 key 5\n")

    def test_a_line_for_each_kind(self):
        self.check_taken(HEAD + ALL_KINDS)
        self.assertEqual(read_bar(numbers_of(HEAD + ALL_KINDS)).tracks, {
            (1, 0, 0): 0, (1, 127, 0): 5, (2, 0, 0): 6, (3, 0, 0): 7,
            (4, 0, 0): 8, (4, 0, 1): 9, (4, 1, 0): 10, (4, 1, 1): 11, (4, 2, 0): 12, (4, 2, 1): 13,
            (5, 0, 0): 14, (5, 1, 0): 15, (6, 0, 0): 16, (6, 1, 0): 17,
            (7, 0, 0): 18, (7, 1, 0): 19, (8, 0, 0): 20, (8, 1, 0): 21, (9, 0, 0): 127,
        })

    def test_every_track_has_a_key(self):
        self.check_taken(HEAD + "".join(f"{track} key {127 - track}\n" for track in range(128)))

    def test_each_line_of_the_table_by_itself(self):
        for line in ALL_KINDS.splitlines(keepends=True):
            self.check_taken(HEAD + line)


class FaultsOfTheHead(BarTest):
    def test_an_empty_text(self):
        self.check_fault("", "")

    def test_words_broken_at_each_byte(self):
        for k, word in enumerate(("bar", "tail", "force", "swell")):
            before = "".join(LINES[:k])
            for cut in range(len(word)):
                right = before + word[:cut]
                for wrong in ("", "x", " ", "\n", "0", word[cut].upper(), "\xe9"):
                    self.check_fault(right, wrong)
                self.check_fault(right, "x" + word[cut + 1:] + " 1 1 1\n")
            self.check_fault(before + word, "s 1 1 1\n")

    def test_another_word_that_begins_alike(self):
        self.check_fault("bar 4 4\nta", "ble 1\n")
        self.check_fault("".join(LINES[:2]) + "fo", "ur 1 1 1\n")

    def test_a_missing_blank(self):
        for k, word in enumerate(("bar", "tail", "force", "swell")):
            self.check_fault("".join(LINES[:k]) + word, "1 1 1\n")
        self.check_fault("bar 8", "\ntail 2\n")
        self.check_fault("bar 8 5\ntail 2\nforce 1", "\nswell 1 2 3\n")
        self.check_fault("bar 8 5\ntail 2\nforce 1 2", "\nswell 1 2 3\n")
        # Without a blank between them two numbers are one, with a needless 0 or out of its range.
        self.check_fault("bar 8 5\ntail 2\nforce ", "02 3\n")
        self.check_fault("bar ", "1285\n")

    def test_a_missing_lines_end(self):
        for k in range(4):
            self.check_fault("".join(LINES[:k + 1])[:-1], "".join(LINES[k + 1:]))
        self.check_fault(HEAD[:-1], "x")

    def test_other_bytes_for_blanks_and_lines_ends(self):
        for place, byte in enumerate(HEAD):
            if byte in " \n":
                other = "\n" if byte == " " else " "
                for wrong in (other, "", "x", "\t", "\r\n", "\x00", "\xff", "-", "."):
                    self.check_fault(HEAD[:place], wrong + HEAD[place + 1:] if wrong else "")

    def test_two_blanks_or_two_lines_ends(self):
        for place, byte in enumerate(HEAD):
            if byte in " \n":
                self.check_fault(HEAD[:place + 1], byte + HEAD[place + 1:])

    def test_texts_that_end_in_the_middle(self):
        for length in range(len(HEAD)):
            self.check_fault(HEAD[:length], "")

    def check_number(self, before, least, most, behind):
        lines = (before + "{}" + behind).splitlines(keepends=True)
        whole = "".join(lines + LINES[len(lines):])
        for number in (least, most):
            self.check_taken(whole.replace("{}", str(number)))
        wrong = ["", "x", "-1", "+1", "/", ":", " 1", "00", "01", f"0{most}", "0" * 9000]
        wrong += [str(most + 1), f"{most}0", "10000", "10001", "9" * 5000, "1" + "0" * 20000]
        if least > 0:
            wrong.append(str(least - 1))
        for number in wrong:
            self.check_fault(before, number + behind)
            self.check_fault(before, number)

    def test_numbers_of_the_head(self):
        self.check_number("bar ", 1, 128, " 5\n")
        self.check_number("bar 8 ", 0, 128, "\n")
        self.check_number("bar 8 5\ntail ", 0, 15, "\n")
        force = "bar 8 5\ntail 2\nforce "
        swell = force + "1 2 3\nswell "
        for before, behind in (("", " 0 0\n"), ("9 ", " 0\n"), ("9 9 ", "\n")):
            self.check_number(force + before, 0, 127, behind)
            self.check_number(swell + before, 0, 1023, behind)

    def test_a_sign_behind_a_number(self):
        self.check_fault("bar 8", "x 5\n")
        self.check_fault("bar 8 5", "/\n")
        self.check_fault("bar 8 5", ":\n")
        self.check_fault("bar 8 5\ntail 2", "a\n")
        self.check_fault("bar 8 5", " \n")
        self.check_fault("bar 8 5\ntail 2", " 3\n")
        self.check_fault("bar 8 5\ntail 2\nforce 1 2 3", " 4\n")
        self.check_fault("bar 8 5\ntail 2\nforce 1 2 3\nswell 1 2 3", " 4\n")


class FaultsOfTheTracks(BarTest):
    def test_a_line_that_does_not_begin_with_a_digit(self):
        for wrong in ("x", " ", "\n", "-1", "/", ":", "\x00", "\xff", "key 1\n", "\n0 loud\n"):
            self.check_fault(HEAD, wrong)
            self.check_fault(HEAD + "5 key 9\n", wrong)

    def test_a_track_out_of_its_range(self):
        for wrong in ("128", "129", "1000", "9" * 6000, "00", "01", "0127"):
            self.check_fault(HEAD, wrong)
            self.check_fault(HEAD, wrong + " key 0\n")
        narrow = HEAD.replace("128", "4")
        self.check_taken(narrow + "3 loud\n")
        self.check_fault(narrow, "4 loud\n")

    def test_a_track_not_above_the_lines_before(self):
        before = HEAD + "5 key 9\n"
        for wrong in ("5", "4", "0", "06", "128"):
            self.check_fault(before, wrong + " loud\n")
            self.check_fault(before, wrong)
        self.check_taken(before + "6 loud\n")

    def test_a_line_behind_the_last_track(self):
        before = HEAD + "127 key 9\n"
        for wrong in ("127", "128", "0", "x", "\n", " "):
            self.check_fault(before, wrong + " loud\n")
        one = "bar 1 0\ntail 0\nforce 0 0 0\nswell 0 0 0\n0 loud\n"
        for wrong in ("0 soft\n", "1 soft\n", "1", "x", "\n"):
            self.check_fault(one, wrong)

    def test_what_stands_behind_the_track(self):
        for wrong in ("", "\n", "x", "key 1\n", "\t", "-"):
            self.check_fault(HEAD + "5", wrong)

    def test_a_word_that_is_not_the_tables(self):
        wrong = ("", " key 1\n", "\n", "1", "Key 1\n", "KEY 1\n", "x\n", "bar 1\n", "tail\n", "force\n", "\xe9", "`", "{")
        for word in wrong:
            self.check_fault(HEAD + "5 ", word)

    def test_a_word_that_begins_like_one_of_the_tables(self):
        for word in ("key", "loud", "soft", "lock", "cancel", "up", "down", "accent", "end"):
            for cut in range(len(word)):
                for behind in ("", "\n", " 0\n", " 0 0\n"):
                    self.check_fault(HEAD + "5 ", word[:cut] + behind)
            for behind in ("s", "s\n", "s 0\n", "x 0 0\n", "z" * 5000):
                self.check_fault(HEAD + "5 ", word + behind)

    def test_kinds_without_numbers(self):
        for word in KINDS_WITHOUT_NUMBERS:
            for wrong in ("", " ", " 0\n", "0\n", "E\n", "\t\n", "`\n", "{\n", "\xe9\n"):
                self.check_fault(HEAD + "5 " + word, wrong)

    def test_a_missing_blank_behind_the_word(self):
        for word in ("key", "lock") + KINDS_WITH_A_SIDE:
            for wrong in ("", "\n", "0\n", "K", "-0\n", "`", "{"):
                self.check_fault(HEAD + "5 " + word, wrong)

    def test_the_key(self):
        for wrong in ("", "\n", "128\n", "128", "00\n", "01\n", "0127\n", "x", "-1", " 1\n", "9" * 7000):
            self.check_fault(HEAD + "5 key ", wrong)
        for wrong in ("", " ", " 0\n", "x\n", "\t"):
            self.check_fault(HEAD + "5 key 127", wrong)

    def test_which_lock(self):
        for wrong in ("", "\n", "3 0\n", "3", "00 0\n", "02 1\n", "10 0\n", "x", "9" * 7000):
            self.check_fault(HEAD + "5 lock ", wrong)
        for wrong in ("", "\n", "x", "-"):
            self.check_fault(HEAD + "5 lock 2", wrong)

    def test_the_side(self):
        for words in ("lock 2",) + KINDS_WITH_A_SIDE:
            for wrong in ("", "\n", "2\n", "2", "00\n", "01\n", "10\n", "x", "9" * 7000):
                self.check_fault(f"{HEAD}5 {words} ", wrong)
            for wrong in ("", " ", " 0\n", "x\n", "\t"):
                self.check_fault(f"{HEAD}5 {words} 1", wrong)

    def test_a_meaning_that_another_track_has(self):
        for line in ALL_KINDS.splitlines():
            meaning = line.split(" ", 1)[1]
            other = "soft" if meaning == "key 1" else "key 1"
            for before in (f"{HEAD}5 {meaning}\n6 ", f"{HEAD}4 {meaning}\n5 {other}\n6 "):
                for behind in ("\n", "", " ", "!", " 9\n", "\n\n"):
                    self.check_fault(before, meaning + behind)

    def test_another_meaning_of_the_same_kind(self):
        before = HEAD + "5 lock 1 0\n6 key 1\n7 up 0\n"
        self.check_taken(before + "8 lock 1 1\n9 lock 0 0\n10 key 0\n11 up 1\n12 down 0\n")

    def test_a_taken_meaning_is_seen_behind_its_last_number_only(self):
        before = HEAD + "5 lock 1 0\n6 key 1\n7 up 0\n"
        self.check_fault(before + "8 lock 1", "")
        self.check_fault(before + "8 lock 1 ", "2\n")
        self.check_fault(before + "8 lock 1 ", "")
        self.check_fault(before + "8 lock 1 ", "00\n")
        self.check_fault(before + "8 key ", "01\n")
        self.check_taken(before + "8 key 12\n")
        self.check_fault(before + "8 up ", "")

    def test_all_locks_taken(self):
        before = HEAD + ALL_KINDS[:ALL_KINDS.index("14 ")]
        self.check_fault(before + "14 ", "lock 2 1\n")
        self.check_fault(before + "14 lock ", "3 1\n")
        self.check_fault(before + "14 lock 2 ", "2\n")

    def test_texts_that_end_in_the_middle(self):
        whole = HEAD + "0 key 60\n1 lock 2 1\n2 loud\n"
        words = {len(HEAD) + 2: "key", len(HEAD) + 11: "lock", len(HEAD) + 22: "loud"}
        for start, word in words.items():
            self.assertEqual(whole[start:start + len(word)], word)
        for length in range(len(HEAD) + 1, len(whole)):
            if whole[length - 1] == "\n":
                self.check_taken(whole[:length])
                continue
            place = length
            for start, word in words.items():
                # A part of a word is a word that isn't the table's.
                if start < length < start + len(word):
                    place = start
            self.assertEqual(ask(opening(whole[:length])), [fault(place)], whole[:length])


if __name__ == "__main__":
    unittest.main()
