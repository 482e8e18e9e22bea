"""et_receive: what the host puts in order."""

import unittest

from onetext.edits import bytes_of_edit
from onetext.object_calls import begin, receive
from tests.helper import (ARGUMENTS, DOES_NOT_FIT, LEAST, MORE_THAN_MOST, MOST, NO_EDIT, TOO_LONG, ask, counted,
                          et_begin, et_edit, et_receive, keep, look, put_in, seen, take_out)

TEXT = [1, 2, 3]

NO_EDITS = [et_begin(0, 1, TEXT)]
ONE = NO_EDITS + [et_receive(0, 0, keep(1) + put_in([8, 8]) + keep(2))]
SEVERAL = ONE + [et_receive(0, 1, take_out(1) + keep(4)), et_receive(0, 2, keep(4) + put_in([9]))]
# The text as of each revision of SEVERAL.
TEXTS = [[1, 2, 3], [1, 8, 8, 2, 3], [8, 8, 2, 3], [8, 8, 2, 3, 9]]

LONG = 65536


def after(calls, *more):
    """What is answered to the calls behind those that make the host ready."""
    return ask(*(list(calls) + list(more)))[len(calls):]


class Receive(unittest.TestCase):
    def test_no_edits(self):
        e = keep(1) + put_in([7]) + take_out(1) + keep(1)
        self.assertEqual(after(NO_EDITS, et_receive(0, 0, e), *look(0)), [counted(e)] + seen([1, 7, 3], 1, 3))

    def test_of_its_own_revision(self):
        e = take_out(2) + keep(3)
        self.assertEqual(after(ONE, et_receive(0, 1, e), *look(0)), [counted(e)] + seen([8, 2, 3], 2, 3))
        self.assertEqual(after(SEVERAL, et_receive(0, 3, e), *look(0)), [counted(e)] + seen([2, 3, 9], 4, 3))

    def test_one_since(self):
        given = after(ONE, et_receive(0, 0, take_out(3)), *look(0))
        self.assertEqual(given, [counted(take_out(1) + keep(2) + take_out(2))] + seen([8, 8], 2, 3))

    def test_several_since(self):
        given = after(SEVERAL, et_receive(0, 0, take_out(2) + keep(1) + put_in([7])), *look(0))
        self.assertEqual(given, [counted(keep(2) + take_out(1) + keep(1) + put_in([7]) + keep(1))] +
                         seen([8, 8, 3, 7, 9], 4, 3))

    def test_every_revision_up_to_its_own(self):
        self.assertEqual(after(SEVERAL, *look(0)), seen(TEXTS[3], 3, 3))
        expected = [keep(4) + put_in([7]) + keep(1), keep(4) + put_in([7]) + keep(1),
                    keep(4) + put_in([7]) + keep(1), keep(5) + put_in([7])]
        for revision, text in enumerate(TEXTS):
            given = after(SEVERAL, et_receive(0, revision, keep(len(text)) + put_in([7])))
            self.assertEqual(given, [counted(expected[revision])])
            given = after(SEVERAL, et_receive(0, revision, put_in([6]) + take_out(len(text))), *look(0))
            self.assertEqual(given[1:], seen(([6, 8, 8, 9], [6, 9], [6, 9], [6])[revision], 4, 3))

    def test_it_comes_first_where_both_put_in(self):
        given = after(ONE, et_receive(0, 0, keep(1) + put_in([7]) + keep(2)), *look(0),
                      et_receive(0, 0, keep(1) + put_in([6]) + keep(2)), *look(0))
        self.assertEqual(given, [counted(keep(1) + put_in([7]) + keep(4))] + seen([1, 7, 8, 8, 2, 3], 2, 3) +
                         [counted(keep(1) + put_in([6]) + keep(5))] + seen([1, 6, 7, 8, 8, 2, 3], 3, 3))

    def test_it_is_the_last_of_the_edits_as_it_was_applied(self):
        given = after(ONE, et_receive(0, 0, take_out(3)), et_receive(0, 1, keep(4) + put_in([7]) + keep(1)),
                      et_receive(0, 0, put_in([6]) + keep(3)), *look(0))
        self.assertEqual(given[1:], [counted(keep(2) + put_in([7])), counted(put_in([6]) + keep(3))] +
                         seen([6, 8, 8, 7], 4, 3))

    def test_edit_of_no_steps(self):
        given = ask(et_begin(0, 1, []), et_receive(0, 0, [], 0), et_receive(0, 0, [], 0), *look(0))
        self.assertEqual(given, [[0], [0], [0]] + seen([], 2, 3))

    def test_nothing_is_left_of_it_to_apply(self):
        given = after(NO_EDITS, et_receive(0, 0, take_out(3)), et_receive(0, 0, take_out(3), 0), *look(0))
        self.assertEqual(given, [counted(take_out(3)), [0]] + seen([], 2, 3))

    def test_edits_in_order(self):
        objects = {}
        begin(objects, 0, 1, TEXT)
        for e in (keep(1) + put_in([8]) + keep(2), take_out(1) + keep(2), keep(3) + put_in([9])):
            receive(objects, 0, 0, MOST, e)
        host = objects[0]
        self.assertEqual([bytes_of_edit(edit) for edit in host.edits],
                         [keep(1) + put_in([8]) + keep(2), take_out(1) + keep(3), keep(3) + put_in([9])])
        self.assertEqual(host.text, [8, 2, 3, 9])

    def test_a_revision_above_its_own(self):
        for calls, own in ((NO_EDITS, 0), (ONE, 1), (SEVERAL, 3)):
            for revision in (own + 1, own + 2, 64, MOST):
                given = after(calls, *look(0), et_receive(0, revision, keep(len(TEXTS[own]))), *look(0))
                self.assertEqual(given, given[:3] + [DOES_NOT_FIT] + given[:3])

    def test_it_must_fit_the_text_as_of_that_revision(self):
        for revision, text in enumerate(TEXTS):
            for length in range(1, 7):
                given = after(SEVERAL, et_receive(0, revision, take_out(length)), *look(0))
                if length == len(text):
                    self.assertGreaterEqual(given[0][0], 0)
                    self.assertEqual(given[2:], [[4], [3]])
                else:
                    self.assertEqual(given, [DOES_NOT_FIT] + seen(TEXTS[3], 3, 3))

    def test_a_hand(self):
        hand = [et_begin(0, 0, TEXT)]
        given = after(hand, et_receive(0, 0, keep(3)), et_receive(0, 0, keep(2)), et_receive(0, 1, keep(3)), *look(0))
        self.assertEqual(given, [DOES_NOT_FIT] * 3 + seen(TEXT, 0, 0))
        given = after(hand, et_edit(0, keep(3)), et_edit(0, take_out(3)), et_receive(0, 0, keep(3)),
                      et_receive(0, 0, []), *look(0))
        self.assertEqual(given[2:], [DOES_NOT_FIT] * 2 + seen([], 0, 2))

    def test_no_edit(self):
        for e in ([1], keep(1) + keep(2), take_out(3) + put_in([1]), keep(LONG + 1), [9, 3, 0, 0, 0]):
            for revision in (0, 1, 3):
                given = after(SEVERAL, et_receive(0, revision, e), *look(0))
                self.assertEqual(given, [NO_EDIT] + seen(TEXTS[3], 3, 3))

    def test_most_or_revision_below_0(self):
        for revision, most in ((-1, MOST), (LEAST, 0), (0, -1), (3, LEAST), (-1, -1)):
            given = after(SEVERAL, et_receive(0, revision, keep(3), most), *look(0))
            self.assertEqual(given, [ARGUMENTS] + seen(TEXTS[3], 3, 3))

    def test_just_most_and_one_more(self):
        e = take_out(2) + keep(1)
        applied = keep(2) + take_out(1) + keep(2)
        for most in (0, 1, len(e), len(applied) - 1):
            given = after(SEVERAL, et_receive(0, 0, e, most), *look(0), et_receive(0, 3, keep(5), 5), *look(0),
                          et_receive(0, 0, e, len(applied)), *look(0))
            self.assertEqual(given, [MORE_THAN_MOST] + seen(TEXTS[3], 3, 3) + [counted(keep(5))] +
                             seen(TEXTS[3], 4, 3) + [counted(applied)] + seen([8, 8, 3, 9], 5, 3))

    def test_which_refusal_comes_first(self):
        hand = [et_begin(0, 0, TEXT)]
        for calls in (hand, SEVERAL):
            given = after(calls, et_receive(0, -1, [9]), et_receive(0, 9, [9], -1), et_receive(0, 9, [9], 0),
                          et_receive(0, -1, keep(9), 0), et_receive(0, 9, keep(9), -1), et_receive(0, 9, keep(9), 0))
            self.assertEqual(given, [ARGUMENTS, ARGUMENTS, NO_EDIT, ARGUMENTS, ARGUMENTS, DOES_NOT_FIT])
        self.assertEqual(after(SEVERAL, et_receive(0, 0, [0] * 1048577), et_receive(0, 0, [0] * 1048576)),
                         [ARGUMENTS, NO_EDIT])


class ReceiveTooLong(unittest.TestCase):
    def test_64_edits(self):
        calls = [et_begin(0, 1, [])] + [et_receive(0, count, put_in([count]) + keep(count) if count else put_in([0]))
                                        for count in range(63)]
        given = after(calls, *look(0), et_receive(0, 0, put_in([99])), *look(0), et_receive(0, 0, put_in([98])),
                      et_receive(0, 64, keep(64), 0), *look(0))
        text = list(reversed(range(63)))
        self.assertEqual(given[:3], seen(text, 63, 3))
        self.assertEqual(given[3], counted(put_in([99]) + keep(63)))
        self.assertEqual(given[4:7], seen([99] + text, 64, 3))
        self.assertEqual(given[7:], [TOO_LONG, TOO_LONG] + seen([99] + text, 64, 3))

    def test_64_edits_of_one_revision(self):
        calls = [et_begin(0, 1, [5])] + [et_receive(0, 0, keep(1) + put_in([count])) for count in range(64)]
        self.assertEqual(after(calls, *look(0)), seen([5] + list(reversed(range(64))), 64, 3))
        self.assertEqual(after(calls, et_receive(0, 0, keep(1))), [TOO_LONG])

    def test_other_refusals_come_before_that_of_64_edits(self):
        calls = [et_begin(0, 1, [5])] + [et_receive(0, 0, keep(1))] * 64
        given = after(calls, et_receive(0, -1, keep(1)), et_receive(0, 64, keep(1), -1), et_receive(0, 64, [9]),
                      et_receive(0, 65, keep(1)), et_receive(0, 64, keep(2)), et_receive(0, 64, keep(1), 0), *look(0))
        self.assertEqual(given, [ARGUMENTS, ARGUMENTS, NO_EDIT, DOES_NOT_FIT, DOES_NOT_FIT, TOO_LONG] +
                         seen([5], 64, 3))

    def test_refused_are_not_among_the_64(self):
        calls = [et_begin(0, 1, [5])] + [et_receive(0, 0, keep(1), 0), et_receive(0, 0, keep(2))] * 70
        given = after(calls + [et_receive(0, 0, keep(1))] * 63, *look(0), et_receive(0, 0, keep(1)), *look(0))
        self.assertEqual(given, seen([5], 63, 3) + [counted(keep(1))] + seen([5], 64, 3))

    def test_begun_again_there_are_no_edits(self):
        calls = [et_begin(0, 1, [5])] + [et_receive(0, 0, keep(1))] * 64
        given = after(calls, et_receive(0, 0, keep(1)), et_begin(0, 1, [6]), et_receive(0, 1, keep(1)),
                      et_receive(0, 0, keep(1)), *look(0))
        self.assertEqual(given, [TOO_LONG, [0], DOES_NOT_FIT, counted(keep(1))] + seen([6], 1, 3))

    def check(self, calls, text, refused, taken):
        """The refused leave all as it was, most 0 or not; what's taken is taken behind them."""
        revision = len(calls) - 1
        for e in refused:
            given = after(calls, et_receive(0, 0, e), et_receive(0, 0, e, 0), *look(0), et_receive(0, 0, taken))
            self.assertEqual(given[:5], [TOO_LONG, TOO_LONG] + seen(text, revision, 3))
            self.assertEqual(given[5:], after(calls, et_receive(0, 0, taken)))
            self.assertGreater(given[5][0], 0)

    def test_too_long_past_the_one_since(self):
        calls = [et_begin(0, 1, [5] * 10), et_receive(0, 0, keep(10) + put_in([8] * (LONG - 11)))]
        refused = [put_in([7] * count) + keep(10) for count in (2, LONG - 10)]
        self.check(calls, [5] * 10 + [8] * (LONG - 11), refused, put_in([7]) + keep(10))

    def test_too_long_past_the_first_since_alone(self):
        calls = [et_begin(0, 1, [5] * 10), et_receive(0, 0, keep(10) + put_in([8] * (LONG - 11))),
                 et_receive(0, 1, take_out(LONG - 1)), et_receive(0, 2, put_in([9]))]
        refused = [put_in([7] * count) + keep(10) for count in (2, LONG - 10)]
        self.check(calls, [9], refused, put_in([7]) + keep(10))

    def test_too_long_past_one_in_the_middle_alone(self):
        calls = [et_begin(0, 1, [5] * 10), et_receive(0, 0, keep(10)),
                 et_receive(0, 1, keep(10) + put_in([8] * (LONG - 11))), et_receive(0, 2, take_out(LONG - 1))]
        self.check(calls, [], [put_in([7, 7]) + keep(10)], put_in([7]) + keep(10))

    def test_too_long_past_the_last_since_alone(self):
        calls = [et_begin(0, 1, [5] * 10), et_receive(0, 0, take_out(10)), et_receive(0, 1, put_in([8] * (LONG - 1)))]
        refused = [put_in([7] * count) + keep(10) for count in (2, 10)]
        self.check(calls, [8] * (LONG - 1), refused, put_in([7]) + keep(10))

    def test_not_turned_past_those_before_its_revision(self):
        calls = [et_begin(0, 1, [5] * 10), et_receive(0, 0, keep(10) + put_in([8] * (LONG - 10))),
                 et_receive(0, 1, take_out(LONG - 10) + keep(10))]
        given = after(calls, et_receive(0, 0, put_in([7]) + keep(10)), et_receive(0, 2, put_in([7]) + keep(10)))
        self.assertEqual(given, [TOO_LONG, counted(put_in([7]) + keep(10))])

    def test_just_as_long_as_may_be(self):
        calls = [et_begin(0, 1, [5] * 10), et_receive(0, 0, keep(10) + put_in([8] * (LONG - 10)))]
        given = after(calls, et_receive(0, 0, put_in([7]) + take_out(1) + keep(9)), *look(0))
        self.assertEqual(given, [counted(put_in([7]) + take_out(1) + keep(LONG - 1))] +
                         seen([7] + [5] * 9 + [8] * (LONG - 10), 2, 3))


if __name__ == "__main__":
    unittest.main()
