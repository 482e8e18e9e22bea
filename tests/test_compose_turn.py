"""et_compose and et_turn."""

import unittest

from tests.helper import (ARGUMENTS, DOES_NOT_FIT, LEAST, MORE_THAN_MOST, MOST, NO_EDIT, TOO_LONG, all_edits, ask,
                          ask_one, counted, et_apply, et_check, et_compose, et_turn, keep, model_apply, model_compose,
                          model_turn, put_in, take_out)


def compose(a, b):
    return ask_one(et_compose(a, b))


def turn(a, b):
    return ask(et_turn(0, a, b), et_turn(1, a, b))


class Compose(unittest.TestCase):
    def test_each_pair_of_fates(self):
        self.assertEqual(compose(keep(3), keep(3)), counted(keep(3)))
        self.assertEqual(compose(keep(3), take_out(3)), counted(take_out(3)))
        self.assertEqual(compose(put_in([1, 2]), keep(2)), counted(put_in([1, 2])))
        self.assertEqual(compose(put_in([1, 2]), take_out(2)), [0])
        self.assertEqual(compose(take_out(3), []), counted(take_out(3)))
        self.assertEqual(compose([], put_in([5])), counted(put_in([5])))
        self.assertEqual(compose([], []), [0])

    def test_put_in_is_put_before_taken_out(self):
        self.assertEqual(compose(take_out(3), put_in([5])), counted(put_in([5]) + take_out(3)))
        a = put_in([1]) + take_out(1) + keep(1)
        b = keep(1) + put_in([2]) + take_out(1)
        self.assertEqual(compose(a, b), counted(put_in([1, 2]) + take_out(2)))

    def test_parts_of_a_putting_in(self):
        a = keep(1) + put_in([1, 2, 3, 4]) + keep(1)
        b = keep(2) + put_in([9]) + take_out(2) + keep(2)
        self.assertEqual(compose(a, b), counted(keep(1) + put_in([1, 9, 4]) + keep(1)))

    def test_kept_parts_come_together(self):
        self.assertEqual(compose(keep(1) + put_in([1]) + keep(1), keep(1) + take_out(1) + keep(1)), counted(keep(2)))

    def test_longest_text(self):
        self.assertEqual(compose(keep(65536), keep(65536)), counted([1, 0, 0, 1, 0]))
        a = take_out(1) + keep(65535)
        self.assertEqual(compose(a, put_in([1]) + keep(65535)), counted(put_in([1]) + take_out(1) + keep(65535)))

    def test_many_steps(self):
        a = (keep(1) + put_in([1])) * 1200
        b = (keep(1) + take_out(1)) * 1200
        self.assertEqual(compose(a, b), counted(keep(1200)))

    def test_applied_one_behind_the_other(self):
        text = [1, 2]
        for a in all_edits(2, ((), (7,))):
            left = model_apply(a, text)
            for b in all_edits(len(left), ((), (8,))) if len(left) < 4 else all_edits(len(left), ((),)):
                both = compose(a, b)
                self.assertEqual(both, counted(model_compose(a, b)))
                self.assertEqual(ask_one(et_apply(both[1:], text)), counted(model_apply(b, left)))

    def test_refusals_in_their_order(self):
        a = keep(2) + put_in([1])
        good = take_out(3)
        for most in (-1, LEAST):
            self.assertEqual(ask_one(et_compose(a, good, most)), ARGUMENTS)
            self.assertEqual(ask_one(et_compose([9], [9], most)), ARGUMENTS)
            self.assertEqual(ask_one(et_compose(a, keep(4), most)), ARGUMENTS)
        self.assertEqual(ask_one(et_compose([9], good, 0)), NO_EDIT)
        self.assertEqual(ask_one(et_compose(a, [9], 0)), NO_EDIT)
        self.assertEqual(ask_one(et_compose([9], [9], 0)), NO_EDIT)
        self.assertEqual(ask_one(et_compose(a, keep(2), 0)), DOES_NOT_FIT)
        self.assertEqual(ask_one(et_compose(a, keep(4), 100)), DOES_NOT_FIT)
        self.assertEqual(ask_one(et_compose(a, [], 100)), DOES_NOT_FIT)
        self.assertEqual(ask_one(et_compose(a, good, 4)), MORE_THAN_MOST)
        self.assertEqual(ask_one(et_compose(a, good, 5)), counted(take_out(2)))
        self.assertEqual(ask_one(et_compose([], [], 0)), [0])

    def test_longer_than_any_row_of_calls(self):
        self.assertEqual(ask_one(et_compose([0] * 1048577, [])), ARGUMENTS)
        self.assertEqual(ask_one(et_compose([], [0] * 1048577)), ARGUMENTS)
        self.assertEqual(ask_one(et_compose([], [0] * 1048576)), NO_EDIT)


class Turn(unittest.TestCase):
    def test_each_pair_of_fates(self):
        self.assertEqual(turn(keep(3), keep(3)), [counted(keep(3)), counted(keep(3))])
        self.assertEqual(turn(take_out(3), take_out(3)), [[0], [0]])
        self.assertEqual(turn(take_out(3), keep(3)), [counted(take_out(3)), [0]])
        self.assertEqual(turn(keep(3), take_out(3)), [[0], counted(take_out(3))])
        self.assertEqual(turn([], []), [[0], [0]])

    def test_a_comes_first_where_both_put_in(self):
        wanted = [counted(put_in([1]) + keep(1)), counted(keep(1) + put_in([2]))]
        self.assertEqual(turn(put_in([1]), put_in([2])), wanted)
        a = keep(1) + put_in([1]) + take_out(1)
        b = keep(1) + put_in([2]) + take_out(1)
        wanted = [counted(keep(1) + put_in([1]) + keep(1)), counted(keep(2) + put_in([2]))]
        self.assertEqual(turn(a, b), wanted)

    def test_put_in_where_the_other_takes_out(self):
        a = keep(1) + put_in([1]) + keep(1)
        wanted = [counted(put_in([1])), counted(take_out(1) + keep(1) + take_out(1))]
        self.assertEqual(turn(a, take_out(2)), wanted)
        self.assertEqual(turn(take_out(2), a), [wanted[1], wanted[0]])

    def test_steps_come_together(self):
        a = take_out(1) + keep(1) + take_out(1)
        b = keep(1) + put_in([7]) + take_out(1) + keep(1)
        wanted = [counted(take_out(1) + keep(1) + take_out(1)), counted(put_in([7]) + take_out(1))]
        self.assertEqual(turn(a, b), wanted)
        self.assertEqual(turn(a, keep(1) + take_out(1) + keep(1)), [counted(take_out(2)), counted(take_out(1))])

    def test_many_steps(self):
        a = (keep(1) + take_out(1)) * 700
        b = (take_out(1) + keep(1)) * 700
        self.assertEqual(turn(a, b), [counted(take_out(700)), counted(take_out(700))])

    def both_ways_round(self, edits, others, text):
        for a in edits:
            for b in others:
                given = turn(a, b)
                wanted = model_turn(a, b)
                self.assertEqual(given, [counted(wanted[0]), counted(wanted[1])], (a, b))
                one = model_apply(given[1][1:], model_apply(a, text))
                self.assertEqual(one, model_apply(given[0][1:], model_apply(b, text)))

    def test_both_ways_round(self):
        self.both_ways_round(all_edits(2, ((), (7,), (8, 9))), all_edits(2, ((), (5,), (5, 6))), [1, 2])
        self.both_ways_round(all_edits(3, ((), (7,))), all_edits(3, ((), (5,))), [1, 2, 3])

    def test_what_is_turned_is_an_edit(self):
        for a in all_edits(2, ((), (7,))):
            for b in all_edits(2, ((), (5,))):
                for given in turn(a, b):
                    self.assertNotEqual(ask_one(et_check(given[1:])), NO_EDIT)

    def test_too_long(self):
        a = keep(65530) + put_in([1] * 3)
        b = put_in([2] * 3) + keep(65530)
        self.assertEqual(turn(a, b), [counted(keep(65533) + put_in([1] * 3)), counted(put_in([2] * 3) + keep(65533))])
        longer = put_in([2] * 4) + keep(65530)
        self.assertEqual(turn(a, longer), [TOO_LONG, TOO_LONG])
        self.assertEqual(turn(longer, a), [TOO_LONG, TOO_LONG])
        shorter = put_in([2] * 4) + take_out(1) + keep(65529)
        self.assertEqual(turn(a, shorter)[0], counted(keep(65533) + put_in([1] * 3)))

    def test_refusals_in_their_order(self):
        a = keep(65536)
        long = [keep(65530) + put_in([1] * 6), keep(65530) + put_in([2])]
        for which, most in ((-1, 100), (2, 100), (LEAST, 100), (MOST, 100), (0, -1), (1, LEAST), (2, -1)):
            self.assertEqual(ask_one(et_turn(which, a, a, most)), ARGUMENTS)
            self.assertEqual(ask_one(et_turn(which, [9], [9], most)), ARGUMENTS)
            self.assertEqual(ask_one(et_turn(which, a, keep(1), most)), ARGUMENTS)
            self.assertEqual(ask_one(et_turn(which, long[0], long[1], most)), ARGUMENTS)
        for which in (0, 1):
            self.assertEqual(ask_one(et_turn(which, [9], a, 0)), NO_EDIT)
            self.assertEqual(ask_one(et_turn(which, a, [9], 0)), NO_EDIT)
            self.assertEqual(ask_one(et_turn(which, a, keep(65535), 0)), DOES_NOT_FIT)
            self.assertEqual(ask_one(et_turn(which, long[0], keep(65536), 0)), DOES_NOT_FIT)
            self.assertEqual(ask_one(et_turn(which, long[0], long[1], 0)), TOO_LONG)
            self.assertEqual(ask_one(et_turn(which, a, a, 4)), MORE_THAN_MOST)
            self.assertEqual(ask_one(et_turn(which, a, a, 5)), counted(a))
            self.assertEqual(ask_one(et_turn(which, [], [], 0)), [0])

    def test_fits_what_both_start_from_not_what_they_leave(self):
        self.assertEqual(turn(put_in([1]), take_out(1)), [DOES_NOT_FIT, DOES_NOT_FIT])
        self.assertEqual(turn(keep(1) + put_in([1]), keep(2)), [DOES_NOT_FIT, DOES_NOT_FIT])

    def test_most_is_of_the_one_that_is_asked_for(self):
        a = put_in([1, 2, 3]) + keep(1)
        b = keep(1)
        self.assertEqual(ask_one(et_turn(0, a, b, 12)), MORE_THAN_MOST)
        self.assertEqual(ask_one(et_turn(0, a, b, 13)), counted(a))
        self.assertEqual(ask_one(et_turn(1, a, b, 5)), counted(keep(4)))
        self.assertEqual(ask_one(et_turn(1, a, b, 4)), MORE_THAN_MOST)

    def test_longer_than_any_row_of_calls(self):
        self.assertEqual(ask_one(et_turn(0, [0] * 1048577, [])), ARGUMENTS)
        self.assertEqual(ask_one(et_turn(0, [], [0] * 1048577)), ARGUMENTS)
        self.assertEqual(ask_one(et_turn(0, [], [0] * 1048576)), NO_EDIT)


if __name__ == "__main__":
    unittest.main()
