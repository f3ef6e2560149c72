import unittest

from paperroll.spools import Spool
from tests.helper import BAR, HEAD, LAST, SPOOL, STRIP, ask, fault, feeding, opening

# The ends of C, Q, P and T.
ENDS = ((1, 1000000), (0, 10000), (1, 100000), (1, 60000000))
GREATEST = 4294967295


def spool_with(which, number):
    return SPOOL[:which] + (number,) + SPOOL[which + 1:]


class SpoolsRanges(unittest.TestCase):
    def test_the_examples_spool(self):
        self.assertEqual(ask(opening(BAR, SPOOL)), [[0]])

    def test_which_number_is_which(self):
        spool = Spool([5, 6, 7, 8])
        self.assertEqual((spool.first_turn, spool.more_a_turn, spool.row_length, spool.turn_time), (5, 6, 7, 8))

    def test_both_ends_of_each(self):
        for which, ends in enumerate(ENDS):
            for number in ends:
                self.assertEqual(ask(opening(BAR, spool_with(which, number))), [[0]], (which, number))

    def test_all_at_their_ends(self):
        self.assertEqual(ask(opening(BAR, tuple(ends[0] for ends in ENDS))), [[0]])
        self.assertEqual(ask(opening(BAR, tuple(ends[1] for ends in ENDS))), [[0]])

    def test_just_above_and_far_above(self):
        for which, ends in enumerate(ENDS):
            for number in (ends[1] + 1, GREATEST):
                self.assertEqual(ask(opening(BAR, spool_with(which, number))), [[-1]], (which, number))

    def test_just_below(self):
        # Q may be 0, and no argument is below that.
        for which in (0, 2, 3):
            self.assertEqual(ask(opening(BAR, spool_with(which, 0))), [[-1]], which)

    def test_all_out_of_range(self):
        self.assertEqual(ask(opening(BAR, (0, GREATEST, 0, 0))), [[-1]])


class OrderOfRefusals(unittest.TestCase):
    def test_a_fault_comes_before_the_spool(self):
        for which, ends in enumerate(ENDS):
            spool = spool_with(which, ends[1] + 1)
            self.assertEqual(ask(opening("", spool)), [fault(0)])
            self.assertEqual(ask(opening(BAR[:-1], spool)), [fault(len(BAR) - 1)])
            self.assertEqual(ask(opening(BAR + "0", spool)), [fault(len(BAR))])
            self.assertEqual(ask(opening(BAR, spool)), [[-1]])


class OpeningAnew(unittest.TestCase):
    def test_everything_as_new(self):
        full = feeding("strip 4\n256 0\n")
        self.assertEqual(
            ask(opening(), full, LAST, LAST, full, opening(), full, feeding("strip 4\n1\n"), LAST, LAST),
            [[0], [0], [0], [-4], [-4], [0], [0], [-10], [0], [-4]],
        )

    def test_the_new_bar_holds(self):
        self.assertEqual(
            ask(opening(), feeding("strip 128\n"), opening(HEAD), feeding("strip 128\n"), feeding(STRIP)),
            [[0], [-5], [0], [0], [-5]],
        )

    def test_a_refused_one_changes_nothing(self):
        refused = (opening(HEAD + "x"), opening(HEAD, (0, 0, 0, 0)), opening(""), opening(STRIP))
        for call in refused:
            answered = ask(opening(), feeding("strip 4\n255 1\n"), call, feeding("strip 128\n"),
                           feeding("strip 4\n1\n"), feeding("strip 4\n1\n"), LAST, call, LAST)
            self.assertLess(answered.pop(7)[0], 0)
            self.assertLess(answered.pop(2)[0], 0)
            self.assertEqual(answered, [[0], [0], [-5], [0], [-10], [0], [-4]])


if __name__ == "__main__":
    unittest.main()
