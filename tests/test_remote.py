"""et_remote and et_confirmed: what a hand gets from the host."""

import unittest

from onetext.edits import bytes_of_edit
from onetext.object_calls import begin, confirmed, edit_by_hand, remote, text_of
from tests.helper import (ARGUMENTS, DOES_NOT_FIT, LEAST, MORE_THAN_MOST, MOST, NO_EDIT, TOO_LONG, ask, counted,
                          et_begin, et_confirmed, et_edit, et_remote, keep, look, put_in, seen, take_out)

TEXT = [1, 2, 3]

# A hand over TEXT: out puts 8 in behind the first byte, kept back takes the last byte out and puts 9 in at its place.
OUT = keep(1) + put_in([8]) + keep(2)
KEPT_BACK = keep(3) + put_in([9]) + take_out(1)
NOTHING_OUT = [et_begin(0, 0, TEXT)]
ONE_OUT = NOTHING_OUT + [et_edit(0, OUT)]
ONE_KEPT_BACK = ONE_OUT + [et_edit(0, KEPT_BACK)]

LONG = 65536


def after(calls, *more):
    """What is answered to the calls behind those that make the hand ready."""
    return ask(*(list(calls) + list(more)))[len(calls):]


class Remote(unittest.TestCase):
    def test_nothing_out(self):
        e = keep(1) + put_in([7]) + take_out(1) + keep(1)
        given = after(NOTHING_OUT, et_remote(0, e), *look(0))
        self.assertEqual(given, [counted(e)] + seen([1, 7, 3], 1, 0))

    def test_one_out(self):
        given = after(ONE_OUT, et_remote(0, take_out(2) + keep(1)), *look(0), et_confirmed(0), *look(0))
        applied = take_out(1) + keep(1) + take_out(1) + keep(1)
        self.assertEqual(given, [counted(applied)] + seen([8, 3], 1, 1) + [[0]] + seen([8, 3], 2, 0))

    def test_one_kept_back_too(self):
        given = after(ONE_KEPT_BACK, *look(0), et_remote(0, take_out(2) + keep(1)), *look(0), et_confirmed(0), *look(0))
        applied = take_out(1) + keep(1) + take_out(1) + keep(1)
        kept_back = keep(1) + put_in([9]) + take_out(1)
        self.assertEqual(given, seen([1, 8, 2, 9], 0, 2) + [counted(applied)] + seen([8, 9], 1, 2) +
                         [counted(kept_back)] + seen([8, 9], 2, 1))

    def test_edit_of_no_steps(self):
        empty = [et_begin(0, 0, [])]
        self.assertEqual(after(empty, et_remote(0, [], 0), *look(0)), [[0]] + seen([], 1, 0))
        both = empty + [et_edit(0, []), et_edit(0, [])]
        self.assertEqual(after(both, et_remote(0, [], 0), *look(0)), [[0]] + seen([], 1, 2))

    def test_nothing_is_left_of_it_to_apply(self):
        calls = NOTHING_OUT + [et_edit(0, take_out(3))]
        self.assertEqual(after(calls, et_remote(0, take_out(3), 0), *look(0)), [[0]] + seen([], 1, 1))

    def test_out_comes_first_where_both_put_in(self):
        given = after(ONE_OUT, et_remote(0, keep(1) + put_in([7]) + keep(2)), *look(0))
        self.assertEqual(given, [counted(keep(2) + put_in([7]) + keep(2))] + seen([1, 8, 7, 2, 3], 1, 1))

    def test_kept_back_comes_first_where_both_put_in(self):
        calls = NOTHING_OUT + [et_edit(0, keep(3)), et_edit(0, put_in([9]) + keep(3))]
        given = after(calls, et_remote(0, put_in([7]) + keep(3)), *look(0), et_confirmed(0))
        self.assertEqual(given, [counted(keep(1) + put_in([7]) + keep(3))] + seen([9, 7, 1, 2, 3], 1, 2) +
                         [counted(put_in([9]) + keep(4))])

    def test_out_and_kept_back_both_come_first(self):
        calls = NOTHING_OUT + [et_edit(0, put_in([8]) + keep(3)), et_edit(0, keep(1) + put_in([9]) + keep(3))]
        given = after(calls, et_remote(0, put_in([7]) + keep(3)), *look(0), et_confirmed(0))
        self.assertEqual(given, [counted(keep(2) + put_in([7]) + keep(3))] + seen([8, 9, 7, 1, 2, 3], 1, 2) +
                         [counted(keep(1) + put_in([9]) + keep(4))])

    def test_several_one_behind_another(self):
        given = after(ONE_KEPT_BACK, et_remote(0, keep(3) + put_in([5])), et_remote(0, take_out(1) + keep(3)),
                      et_remote(0, keep(2) + put_in([6]) + keep(1)), *look(0))
        self.assertEqual(given, [counted(keep(4) + put_in([5])), counted(take_out(1) + keep(4)),
                                 counted(keep(3) + put_in([6]) + keep(1))] + seen([8, 2, 9, 6, 5], 3, 2))

    def test_out_is_turned_past_it(self):
        objects = {}
        begin(objects, 0, 0, TEXT)
        for e in (OUT, KEPT_BACK):
            edit_by_hand(objects, 0, e)
        remote(objects, 0, MOST, put_in([7]) + take_out(1) + keep(2))
        hand = objects[0]
        self.assertEqual(bytes_of_edit(hand.out), keep(1) + put_in([8]) + keep(2))
        self.assertEqual(bytes_of_edit(hand.kept_back), keep(3) + put_in([9]) + take_out(1))
        remote(objects, 0, MOST, take_out(1) + keep(1) + put_in([6]) + take_out(1))
        self.assertEqual(bytes_of_edit(hand.out), put_in([8]) + keep(2))
        self.assertEqual(bytes_of_edit(hand.kept_back), keep(2) + put_in([9]) + keep(1))
        self.assertEqual((hand.text, hand.revision), ([8, 2, 9, 6], 2))

    def test_it_must_fit_the_text_without_out_and_kept_back(self):
        shorter = keep(1) + take_out(2)
        longer = keep(3) + put_in([4, 5])
        for first, second in ((shorter, put_in([4, 5, 6]) + keep(1)), (longer, take_out(5)), (longer, keep(5))):
            one = NOTHING_OUT + [et_edit(0, first)]
            for calls in (one, one + [et_edit(0, second)]):
                for length in (1, 2, 4, 5, 6):
                    given = after(calls, *look(0), et_remote(0, keep(length)), *look(0))
                    self.assertEqual(given, given[:3] + [DOES_NOT_FIT] + given[:3])
                self.assertGreaterEqual(after(calls, et_remote(0, keep(3)))[0][0], 0)

    def test_it_must_fit_the_text_as_of_the_revision_it_has(self):
        calls = ONE_OUT + [et_remote(0, take_out(3))]
        self.assertEqual(after(calls, et_remote(0, keep(3)), et_remote(0, []), et_remote(0, put_in([7]))),
                         [DOES_NOT_FIT, counted(keep(1)), counted(keep(1) + put_in([7]))])
        calls = ONE_KEPT_BACK + [et_confirmed(0)]
        self.assertEqual(after(calls, et_remote(0, keep(3)), et_remote(0, keep(4))), [DOES_NOT_FIT, counted(keep(4))])
        calls = calls + [et_remote(0, take_out(4)), et_confirmed(0)]
        self.assertEqual(after(calls, et_remote(0, []), et_remote(0, keep(1))), [DOES_NOT_FIT, counted(keep(1))])

    def test_the_host(self):
        given = ask(et_begin(0, 1, TEXT), et_remote(0, keep(3)), et_remote(0, keep(2)), *look(0))
        self.assertEqual(given, [[0], DOES_NOT_FIT, DOES_NOT_FIT] + seen(TEXT, 0, 3))

    def test_no_edit(self):
        for e in ([1], keep(1) + keep(2), take_out(3) + put_in([1]), keep(LONG + 1), [9, 3, 0, 0, 0]):
            given = after(ONE_KEPT_BACK, et_remote(0, e), *look(0))
            self.assertEqual(given, [NO_EDIT] + seen([1, 8, 2, 9], 0, 2))

    def test_most_below_0(self):
        for most in (-1, LEAST):
            given = after(ONE_KEPT_BACK, et_remote(0, keep(3), most), *look(0))
            self.assertEqual(given, [ARGUMENTS] + seen([1, 8, 2, 9], 0, 2))

    def test_just_most_and_one_more(self):
        e = take_out(2) + keep(1)
        applied = take_out(1) + keep(1) + take_out(1) + keep(1)
        for most in (0, 1, len(e), len(applied) - 1):
            given = after(ONE_KEPT_BACK, et_remote(0, e, most), *look(0), et_remote(0, e, len(applied)), *look(0),
                          et_confirmed(0))
            self.assertEqual(given, [MORE_THAN_MOST] + seen([1, 8, 2, 9], 0, 2) + [counted(applied)] +
                             seen([8, 9], 1, 2) + [counted(keep(1) + put_in([9]) + take_out(1))])

    def test_which_refusal_comes_first(self):
        host = [et_begin(0, 1, TEXT)]
        self.assertEqual(after(host, et_remote(0, [9], -1), et_remote(0, [9], 0), et_remote(0, keep(3), -1)),
                         [ARGUMENTS, NO_EDIT, ARGUMENTS])
        self.assertEqual(after(host, et_remote(0, keep(3), 0)), [DOES_NOT_FIT])
        self.assertEqual(after(ONE_OUT, et_remote(0, [9], -1), et_remote(0, [9], 0), et_remote(0, keep(4), -1),
                               et_remote(0, keep(4), 0)), [ARGUMENTS, NO_EDIT, ARGUMENTS, DOES_NOT_FIT])
        self.assertEqual(after(ONE_OUT, et_remote(0, [0] * 1048577, 0), et_remote(0, [0] * 1048576, 0)),
                         [ARGUMENTS, NO_EDIT])


class RemoteTooLong(unittest.TestCase):
    def check(self, calls, text, state, refused, taken):
        """The refused leave all as it was, most 0 or not; what's taken is taken behind them."""
        for e in refused:
            given = after(calls, et_remote(0, e), et_remote(0, e, 0), *look(0), et_remote(0, taken))
            self.assertEqual(given[:5], [TOO_LONG, TOO_LONG] + seen(text, 0, state))
            self.assertEqual(given[5:], after(calls, et_remote(0, taken)))
            self.assertGreater(given[5][0], 0)

    def test_what_is_out_leaves_too_long_a_text(self):
        calls = [et_begin(0, 0, [5] * (LONG - 6)), et_edit(0, put_in([8] * 5) + keep(LONG - 6))]
        refused = [keep(LONG - 6) + put_in([7] * count) for count in (2, 6)]
        self.check(calls, [8] * 5 + [5] * (LONG - 6), 1, refused, keep(LONG - 6) + put_in([7]))

    def test_what_is_out_alone_leaves_too_long_a_text(self):
        calls = [et_begin(0, 0, [5] * (LONG - 6)), et_edit(0, put_in([8] * 5) + keep(LONG - 6)),
                 et_edit(0, take_out(LONG - 1))]
        refused = [keep(LONG - 6) + put_in([7] * count) for count in (2, 6)]
        self.check(calls, [], 2, refused, keep(LONG - 6) + put_in([7]))

    def test_what_is_kept_back_leaves_too_long_a_text(self):
        calls = [et_begin(0, 0, [5] * 10), et_edit(0, take_out(10)), et_edit(0, put_in([9] * (LONG - 1)))]
        refused = [keep(10) + put_in([7] * count) for count in (2, 3, 10)]
        self.check(calls, [9] * (LONG - 1), 2, refused, keep(10) + put_in([7]))

    def test_just_as_long_as_may_be(self):
        calls = [et_begin(0, 0, [5] * 10), et_edit(0, keep(10) + put_in([8] * (LONG - 11))), et_edit(0, keep(LONG - 1))]
        given = after(calls, et_remote(0, put_in([7]) + keep(10)), *look(0), et_confirmed(0))
        self.assertEqual(given, [counted(put_in([7]) + keep(LONG - 1))] +
                         seen([7] + [5] * 10 + [8] * (LONG - 11), 1, 2) + [counted(keep(LONG))])

    def test_nothing_out(self):
        calls = [et_begin(0, 0, [5] * 10)]
        self.assertEqual(after(calls, et_remote(0, keep(10) + put_in([7] * (LONG - 9))), *look(0)),
                         [NO_EDIT] + seen([5] * 10, 0, 0))
        e = keep(10) + put_in([7] * (LONG - 10))
        self.assertEqual(after(calls, et_remote(0, e), *look(0)),
                         [counted(e)] + seen([5] * 10 + [7] * (LONG - 10), 1, 0))

    def test_last_revision(self):
        for edits in ([], [OUT], [OUT, KEPT_BACK]):
            objects = {}
            begin(objects, 0, 0, TEXT)
            for e in edits:
                edit_by_hand(objects, 0, e)
            hand = objects[0]
            hand.revision = MOST - 1
            self.assertGreater(remote(objects, 0, MOST, put_in([7]) + keep(3))[0], 0)
            text = text_of(objects, 0, MOST)
            self.assertEqual(hand.revision, MOST)
            self.assertEqual(remote(objects, 0, 0, keep(4)), TOO_LONG)
            self.assertEqual(remote(objects, 0, 0, keep(3)), DOES_NOT_FIT)
            self.assertEqual((hand.revision, text_of(objects, 0, MOST)), (MOST, text))


class Confirmed(unittest.TestCase):
    def test_nothing_out(self):
        given = after(NOTHING_OUT, et_confirmed(0), et_confirmed(0, 0), *look(0))
        self.assertEqual(given, [DOES_NOT_FIT, DOES_NOT_FIT] + seen(TEXT, 0, 0))

    def test_nothing_kept_back(self):
        for most in (0, 1, MOST):
            given = after(ONE_OUT, et_confirmed(0, most), *look(0), et_confirmed(0, most), *look(0))
            self.assertEqual(given, [[0]] + seen([1, 8, 2, 3], 1, 0) + [DOES_NOT_FIT] + seen([1, 8, 2, 3], 1, 0))

    def test_one_kept_back(self):
        given = after(ONE_KEPT_BACK, et_confirmed(0), *look(0), et_confirmed(0), *look(0), et_confirmed(0))
        self.assertEqual(given, [counted(KEPT_BACK)] + seen([1, 8, 2, 9], 1, 1) + [[0]] + seen([1, 8, 2, 9], 2, 0) +
                         [DOES_NOT_FIT])

    def test_several_kept_back(self):
        calls = ONE_KEPT_BACK + [et_edit(0, keep(3) + take_out(1)), et_edit(0, keep(3) + put_in([6]))]
        self.assertEqual(after(calls, et_confirmed(0), *look(0)),
                         [counted(keep(3) + put_in([6]) + take_out(1))] + seen([1, 8, 2, 6], 1, 1))

    def test_edit_of_no_steps_kept_back(self):
        calls = [et_begin(0, 0, []), et_edit(0, []), et_edit(0, [])]
        given = after(calls, et_confirmed(0, 0), *look(0), et_confirmed(0, 0), *look(0))
        self.assertEqual(given, [[0]] + seen([], 1, 1) + [[0]] + seen([], 2, 0))

    def test_edits_again_behind_it(self):
        given = after(ONE_OUT, et_confirmed(0), et_edit(0, keep(4)), et_edit(0, keep(4)), et_confirmed(0),
                      et_edit(0, take_out(4)), *look(0))
        self.assertEqual(given, [[0], [1], [0], counted(keep(4)), [0]] + seen([], 2, 2))

    def test_the_host(self):
        given = ask(et_begin(0, 1, TEXT), et_confirmed(0), *look(0))
        self.assertEqual(given, [[0], DOES_NOT_FIT] + seen(TEXT, 0, 3))

    def test_most_below_0(self):
        for calls in (NOTHING_OUT, ONE_OUT, ONE_KEPT_BACK, [et_begin(0, 1, TEXT)]):
            for most in (-1, LEAST):
                given = after(calls, *look(0), et_confirmed(0, most), *look(0))
                self.assertEqual(given, given[:3] + [ARGUMENTS] + given[:3])

    def test_just_most_and_one_more(self):
        for most in (0, 1, len(KEPT_BACK) - 1):
            given = after(ONE_KEPT_BACK, et_confirmed(0, most), *look(0), et_confirmed(0, len(KEPT_BACK)), *look(0))
            self.assertEqual(given, [MORE_THAN_MOST] + seen([1, 8, 2, 9], 0, 2) + [counted(KEPT_BACK)] +
                             seen([1, 8, 2, 9], 1, 1))

    def test_refused_leaves_what_is_out(self):
        e = put_in([7]) + take_out(3)
        given = after(ONE_KEPT_BACK, et_confirmed(0, 3), et_remote(0, e))
        self.assertEqual(given[1:], after(ONE_KEPT_BACK, et_remote(0, e)))

    def test_last_revision(self):
        objects = {}
        begin(objects, 0, 0, TEXT)
        for e in (OUT, KEPT_BACK):
            edit_by_hand(objects, 0, e)
        hand = objects[0]
        hand.revision = MOST - 1
        self.assertEqual(confirmed(objects, 0, MOST), counted(KEPT_BACK))
        self.assertEqual(confirmed(objects, 0, MOST), TOO_LONG)
        self.assertEqual(confirmed(objects, 0, -1), ARGUMENTS)
        edit_by_hand(objects, 0, keep(4))
        self.assertEqual(confirmed(objects, 0, 0), TOO_LONG)
        self.assertEqual(bytes_of_edit(hand.out), KEPT_BACK)
        self.assertEqual(bytes_of_edit(hand.kept_back), keep(4))
        hand.out = None
        self.assertEqual(confirmed(objects, 0, 0), DOES_NOT_FIT)


if __name__ == "__main__":
    unittest.main()
