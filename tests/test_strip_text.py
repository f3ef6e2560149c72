import unittest

from paperroll.strips import read_strip
from tests.helper import STRIP, ask, fault, feeding, numbers_of, opening


def bar_of(width):
    return f"bar {width} 0\ntail 0\nforce 0 0 0\nswell 0 0 0\n"


class StripTest(unittest.TestCase):
    def check_taken(self, text, width=4):
        self.assertEqual(ask(opening(bar_of(width)), feeding(text)), [[0], [0]], text)

    def check_fault(self, before, rest):
        """The text is before and rest together, the fault at rest's first byte or at the end."""
        self.assertEqual(ask(opening(bar_of(4)), feeding(before + rest)), [[0], fault(len(before))], (before, rest))


class Taken(StripTest):
    def test_the_examples_strip(self):
        self.check_taken(STRIP)
        strip = read_strip(numbers_of(STRIP))
        self.assertEqual(strip.width, 4)
        self.assertEqual(strip.rows, [(0,), (0, 1), (), (2,), (), ()])

    def test_without_rows(self):
        for width in (1, 4, 88, 128):
            self.check_taken(f"strip {width}\n", width)
        self.assertEqual(read_strip(numbers_of("strip 88\n")).rows, [])

    def test_width_one(self):
        self.check_taken("strip 1\n1 0\n2\n3 0\n", 1)

    def test_width_128(self):
        tracks = "".join(f" {track}" for track in range(128))
        self.check_taken(f"strip 128\n1{tracks}\n1 127\n1 0 127\n", 128)
        self.assertEqual(read_strip(numbers_of(f"strip 128\n1{tracks}\n")).rows, [tuple(range(128))])

    def test_256_rows_in_one_run(self):
        self.check_taken("strip 4\n256\n")
        self.check_taken("strip 4\n256 0 1 2 3\n")
        self.assertEqual(read_strip(numbers_of("strip 4\n256 3\n")).rows, [(3,)] * 256)

    def test_256_rows_in_many(self):
        self.check_taken("strip 4\n255 1\n1\n")
        self.check_taken("strip 4\n1 1\n255\n")
        self.check_taken("strip 4\n" + 128 * "1 0\n1\n")
        self.assertEqual(read_strip(numbers_of("strip 4\n" + 128 * "1 0\n1\n")).rows, [(0,), ()] * 128)

    def test_holes_that_come_again_later(self):
        self.check_taken("strip 4\n1 0\n1 1\n1 0\n1\n1 0\n")


class FaultsOfTheHead(StripTest):
    def test_an_empty_text(self):
        self.check_fault("", "")

    def test_the_word_broken(self):
        for cut in range(5):
            for wrong in ("", "x", " ", "\n", "0", "S", "\xf3", "x" + "strip"[cut + 1:] + " 4\n"):
                self.check_fault("strip"[:cut], wrong)
        self.check_fault("strip", "s 4\n")

    def test_the_blank_behind_it(self):
        for wrong in ("", "4\n", "\n", "\t4\n", "x"):
            self.check_fault("strip", wrong)

    def test_the_width(self):
        wrong = ("", "\n", " 4\n", "x", "-4\n", "/", ":", "0\n", "0", "00\n", "04\n", "0128\n", "129\n", "129", "1280\n",
                 "10001\n", "9" * 20000, "0" * 20000)
        for number in wrong:
            self.check_fault("strip ", number)

    def test_the_lines_end_behind_it(self):
        for wrong in ("", " ", " \n", "x", "\r\n", "-", "/", ":"):
            self.check_fault("strip 4", wrong)

    def test_the_width_is_the_texts_own_in_its_fault(self):
        self.check_fault("strip 2\n1 0 1 ", "2\n")
        self.assertEqual(ask(opening(bar_of(4)), feeding("strip 8\n1 7\n")), [[0], [-5]])


class FaultsOfTheRuns(StripTest):
    def test_a_line_that_does_not_begin_with_a_digit(self):
        for wrong in ("\n", " ", "x", "-1\n", "/", ":", " 1\n", "\x00", "\xff"):
            self.check_fault("strip 4\n", wrong)
            self.check_fault("strip 4\n5 1\n", wrong)

    def test_how_many_rows(self):
        for wrong in ("0", "00", "01", "0256", "257", "1000", "10001", "9" * 20000):
            for behind in ("\n", "", " 1\n", "x"):
                self.check_fault("strip 4\n", wrong + behind)

    def test_above_what_is_left(self):
        self.check_taken("strip 4\n100\n50 1\n106\n")
        self.check_fault("strip 4\n100\n50 1\n", "107\n")
        self.check_fault("strip 4\n100\n50 1\n", "0\n")
        self.check_fault("strip 4\n100\n50 1\n", "256\n")
        self.check_fault("strip 4\n255\n", "2 1\n")

    def test_a_line_where_no_row_is_left(self):
        for before in ("strip 4\n256\n", "strip 4\n250\n6 1\n", "strip 4\n" + 128 * "1 0\n1\n"):
            for wrong in ("1 0\n", "0", "0 0\n", "x", "\n", " ", "1"):
                self.check_fault(before, wrong)

    def test_what_stands_behind_how_many(self):
        for wrong in ("", "x", "\t", "-", ",", "\r\n"):
            self.check_fault("strip 4\n1", wrong)
            self.check_fault("strip 4\n1 0", wrong)
            self.check_fault("strip 4\n1 0 3", wrong)
            self.check_fault("strip 4\n9\n1 0", wrong)

    def test_what_stands_behind_a_blank(self):
        for wrong in ("", "\n", " ", "x", "-1", "/", ":", "4", "4\n", "00", "01", "03\n", "10", "10001", "9" * 20000):
            self.check_fault("strip 4\n1 ", wrong)
            self.check_fault("strip 4\n1 1 ", wrong)
            self.check_fault("strip 4\n9\n1 1 ", wrong)

    def test_a_track_not_above_the_one_before(self):
        for wrong in ("0", "1", "2", "2\n", "2 3\n"):
            self.check_fault("strip 4\n1 2 ", wrong)
        self.check_taken("strip 4\n1 2 3\n1 0\n")

    def test_where_no_track_is_left(self):
        for wrong in ("", "3", "4", "0", "\n", "x", " "):
            self.check_fault("strip 4\n1 3 ", wrong)
            self.check_fault("strip 4\n1 0 1 2 3 ", wrong)
            self.check_fault("strip 1\n1 0 ", wrong)

    def test_the_holes_of_the_run_before(self):
        for holes in ("", " 0", " 3", " 0 1 2 3"):
            for behind in ("\n", "", "\n1\n", "x"):
                self.check_fault(f"strip 4\n1{holes}\n2{holes}", behind)
                self.check_fault(f"strip 4\n1{holes}\n1 1 2\n3{holes}\n1{holes}", behind)
        # More holes make it another run.
        self.check_taken("strip 4\n1 0\n2 0 1\n2 0\n")

    def test_texts_that_end_in_the_middle(self):
        for length in range(len(STRIP)):
            if STRIP[:length].endswith("\n"):
                self.check_taken(STRIP[:length])
            else:
                self.check_fault(STRIP[:length], "")


if __name__ == "__main__":
    unittest.main()
