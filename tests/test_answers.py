import unittest

from paperroll.player import answers
from tests.helper import (
    BAR, GREATEST, LAST, LEVER, NOW, SPOOL, STEP, STEP_ON, STRIP, ask, fault, feeding, lever, opening, stepping,
)


class Unchangeable(list):
    """A list that tells of every change, also of one that is taken back."""

    def refuse(self, *args, **kwargs):
        raise AssertionError("what was handed in is changed")

    append = clear = extend = insert = pop = remove = reverse = sort = refuse
    __setitem__ = __delitem__ = __iadd__ = __imul__ = refuse


class FormOfAnswers(unittest.TestCase):
    def test_a_number_alone_has_one_before_it(self):
        self.assertEqual(answers(opening()), [1, 0])
        self.assertEqual(answers(LAST), [1, -8])

    def test_a_fault_is_four_numbers(self):
        self.assertEqual(answers(opening("bat")), [4, -6, 1, 2, 0])
        self.assertEqual(answers(opening() + feeding("strip x")), [1, 0, 4, -6, 1, 6, 0])

    def test_a_step_has_its_count_where_an_event_is_told(self):
        self.assertEqual(answers(opening() + STEP), [1, 0, 1, 1])
        self.assertEqual(answers(opening() + feeding() + STEP), [1, 0, 1, 0, 8, 0, 5, 2, 60, 40, 0, 0, 0])
        self.assertEqual(answers(opening() + feeding() + stepping(2, 2) + stepping(1, 9) + stepping(0, 0)),
                         [1, 0, 1, 0, 13, 0, 10, 2, 60, 40, 0, 0, 2, 61, 40, 1, 10000, 0, 1, 0, 1, 0])

    def test_a_lever_is_a_number_alone(self):
        self.assertEqual(answers(opening() + LEVER + lever(0)), [1, 0, 1, 0, 1, -1])

    def test_now_has_nine_numbers_and_tracks(self):
        self.assertEqual(answers(opening() + NOW), [1, 0, 12, 0, 9, 0, 0, 0, 0, 0, 0, 0, 0, 0, 0])
        self.assertEqual(answers(opening() + feeding() + stepping(2, 1) + NOW)[13:],
                         [14, 0, 11, 2, 4, 1, 0, 10000, 0, 0, 0, 0, 0, 1, 0])

    def test_all_six_calls(self):
        self.assertEqual(
            answers(opening() + feeding("strip 4\n1 3\n") + LAST + STEP_ON + LEVER + NOW),
            [1, 0, 1, 0, 1, 0, 8, 2, 5, 7, 0, 0, 0, 0, 0, 1, 0, 13, 0, 10, 1, 0, 0, 2, 0, 0, 0, 0, 0, 3, 0],
        )

    def test_the_greatest_arguments(self):
        self.assertEqual(ask(opening(), [4, GREATEST, GREATEST], [4, 0, GREATEST], [4, GREATEST, 0], [5, GREATEST]),
                         [[0], [1], [0], [1], [-1]])
        self.assertEqual(ask(opening(BAR, 4 * (GREATEST,))), [[-1]])

    def test_calls_are_answered_in_order(self):
        calls = LAST + opening() + feeding() + feeding("strip 4\n0") + LAST + LAST + feeding()
        self.assertEqual(answers(calls), [1, -8, 1, 0, 1, 0, 4, -6, 1, 8, 0, 1, 0, 1, -4, 1, -4])

    def test_a_text_is_as_long_as_its_count_says(self):
        # What stands behind the text is the next call, though it looks like more of the text.
        self.assertEqual(ask(opening(), [2, 0], [3]), [[0], fault(0), [0]])
        text = list(STRIP.encode())
        self.assertEqual(ask(opening(), [2, len(text)] + text, [2, 1, 115]), [[0], [0], fault(1)])

    def test_four_hundred_calls(self):
        self.assertEqual(ask(*[opening()] + 199 * [LAST, feeding("")] + [LAST]),
                         [[0], [0]] + [fault(0), [-4]] * 199)

    def test_a_list_of_thirty_thousand_numbers(self):
        text = "strip " + 29992 * "7"
        self.assertEqual(len(feeding(text)), 30000)
        self.assertEqual(ask(feeding(text)), [[-8]])
        text = "bar 1" + 29989 * "0"
        self.assertEqual(len(opening(text)), 30000)
        self.assertEqual(ask(opening(text)), [fault(4)])

    def test_answers_are_plain_whole_numbers(self):
        answered = answers(NOW + opening() + NOW + feeding() + STEP + NOW + LEVER + lever(0) + LAST + STEP_ON + NOW + LAST
                           + feeding("") + opening("", (0, 0, 0, 0)))
        self.assertIs(type(answered), list)
        for number in answered:
            self.assertIs(type(number), int)


class WithoutAPlayer(unittest.TestCase):
    def test_every_other_call_is_refused(self):
        for call in (feeding(), LAST, STEP, LEVER, NOW):
            self.assertEqual(ask(call), [[-8]])
            self.assertEqual(ask(call, opening()), [[-8], [0]])

    def test_whatever_else_could_be_refused(self):
        for call in (feeding("strap"), feeding(""), feeding("strip 5\n"), [5, 0], [4, 0, 0], [4, 4294967295, 4294967295]):
            self.assertEqual(ask(call), [[-8]])

    def test_one_behind_another(self):
        calls = (feeding(), LAST, STEP, LEVER, NOW)
        self.assertEqual(ask(*calls, *calls), [[-8]] * 10)

    def test_a_refused_opening_gives_no_player(self):
        for refused in (opening("bar"), opening(BAR, (0,) + SPOOL[1:])):
            for call in (feeding(), LAST, STEP, LEVER, NOW):
                self.assertEqual(ask(refused, call)[1], [-8])

    def test_refused_calls_leave_no_trace(self):
        self.assertEqual(ask(LAST, opening(), LAST, feeding()), [[-8], [0], [0], [-4]])
        self.assertEqual(ask(feeding("strip 4\n256\n"), opening(), feeding("strip 4\n256\n")), [[-8], [0], [0]])


class NothingIsChangedOrKept(unittest.TestCase):
    def setUp(self):
        self.calls = (
            LAST + opening("bar") + opening() + opening(BAR, (0, 0, 0, 0)) + feeding() + feeding("strip 4\n256\n")
            + STEP + NOW + LEVER + lever(0) + STEP_ON + NOW + feeding() + stepping(2, 1) + NOW
            + feeding("strip 5\n") + feeding("strip 4\n1 0\n1 0\n") + LAST + LAST + feeding() + STEP_ON + NOW
            + opening() + NOW + feeding() + STEP + LEVER + NOW
        )

    def test_what_is_handed_in_is_as_it_was(self):
        handed_in = list(self.calls)
        answers(handed_in)
        self.assertEqual(handed_in, self.calls)

    def test_not_changed_for_a_while_either(self):
        self.assertEqual(answers(Unchangeable(self.calls)), answers(self.calls))

    def test_the_same_list_twice(self):
        once = answers(self.calls)
        kept = list(once)
        self.assertEqual(answers(self.calls), kept)
        self.assertEqual(once, kept)

    def test_each_list_begins_without_a_player(self):
        self.assertEqual(answers(opening() + LAST), [1, 0, 1, 0])
        self.assertEqual(answers(opening() + feeding() + LEVER + STEP)[-3:], [0, 0, 0])
        for call in (LAST, feeding(), STEP, LEVER, NOW):
            self.assertEqual(answers(call), [1, -8])
        self.assertEqual(ask(opening(), NOW)[1], [0, 9] + 10 * [0])

    def test_what_is_given_back_is_the_callers_own(self):
        once = answers(self.calls)
        kept = list(once)
        once.clear()
        self.assertEqual(answers(self.calls), kept)


if __name__ == "__main__":
    unittest.main()
