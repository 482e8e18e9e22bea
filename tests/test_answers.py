"""How calls are handed in and answers given back."""

import unittest

from onetext.copies import answers
from tests.helper import (et_apply, et_begin, et_check, et_compose, et_confirmed, et_edit, et_receive, et_remote,
                          et_revision, et_state, et_text, et_turn, et_undo, keep, put_in, take_out)


class Locked(list):
    """A list that refuses to be changed, for a while either."""

    def refuse(self, *given):
        raise AssertionError("the list handed in was changed")

    append = extend = insert = pop = remove = clear = sort = reverse = refuse
    __setitem__ = __delitem__ = __iadd__ = __imul__ = refuse


ALL_CALLS = (et_check(keep(2)) + et_apply(take_out(1), [7]) + et_undo(take_out(1), [7]) +
             et_compose(keep(1), take_out(1)) + et_turn(1, keep(1), take_out(1)) +
             et_begin(0, 0, [4]) + et_edit(0, keep(1) + put_in([5])) + et_edit(0, take_out(2)) + et_edit(0, [1]) +
             et_remote(0, put_in([6]) + keep(1)) + et_remote(0, keep(1)) + et_confirmed(0) + et_confirmed(0) +
             et_text(0) + et_text(0, 0) + et_revision(0) + et_state(0) +
             et_begin(3, 1, [7]) + et_receive(3, 0, take_out(1)) + et_receive(3, 0, keep(1) + put_in([9])) +
             et_receive(3, 3, keep(1)) + et_text(3) + et_revision(3) + et_state(3))
ALL_ANSWERS = ([3, 1, 2, 2] + [1, 0] + [7, 6, 2, 1, 0, 0, 0, 7] + [6, 5, 3, 1, 0, 0, 0] +
               [6, 5, 3, 1, 0, 0, 0] + [1, 0] + [1, 1] + [1, 0] + [1, -3] +
               [7, 6, 2, 1, 0, 0, 0, 6] + [1, -4] + [11, 10, 1, 1, 0, 0, 0, 3, 2, 0, 0, 0] + [1, 0] +
               [2, 1, 6] + [1, -7] + [1, 3] + [1, 0] +
               [1, 0] + [6, 5, 3, 1, 0, 0, 0] + [7, 6, 2, 1, 0, 0, 0, 9] +
               [1, -4] + [2, 1, 9] + [1, 2] + [1, 3])


class Answers(unittest.TestCase):
    def test_empty_list(self):
        self.assertEqual(answers([]), [])

    def test_calls_written_out(self):
        self.assertEqual(answers([0, 5, 1, 2, 0, 0, 0]), [3, 1, 2, 2])
        self.assertEqual(answers([1, 3, 6, 2, 1, 0, 0, 0, 9, 0]), [2, 1, 9])
        self.assertEqual(answers([2, 9, 5, 3, 1, 0, 0, 0, 1, 8]), [7, 6, 2, 1, 0, 0, 0, 8])
        self.assertEqual(answers([3, 9, 0, 6, 2, 1, 0, 0, 0, 8]), [7, 6, 2, 1, 0, 0, 0, 8])
        self.assertEqual(answers([4, 0, 9, 5, 3, 1, 0, 0, 0, 5, 1, 1, 0, 0, 0]), [6, 5, 3, 1, 0, 0, 0])
        self.assertEqual(answers([4, 1, 9, 5, 3, 1, 0, 0, 0, 5, 1, 1, 0, 0, 0]), [1, 0])
        self.assertEqual(answers([5, 3, 0, 1, 7, 6, 3, 5, 3, 1, 0, 0, 0]), [1, 0, 1, 1])
        self.assertEqual(answers([5, 2, 0, 0, 7, 2, 9, 6, 2, 1, 0, 0, 0, 8]), [1, 0, 7, 6, 2, 1, 0, 0, 0, 8])
        self.assertEqual(answers([5, 2, 0, 0, 6, 2, 0, 8, 2, 9, 8, 2, 9]), [1, 0, 1, 1, 1, 0, 1, -4])
        self.assertEqual(answers([5, 2, 1, 0, 9, 2, 0, 9, 6, 2, 1, 0, 0, 0, 8]), [1, 0, 7, 6, 2, 1, 0, 0, 0, 8])
        self.assertEqual(answers([5, 2, 1, 2, 0, 8, 10, 2, 9, 11, 2, 12, 2]), [1, 0, 3, 2, 0, 8, 1, 0, 1, 3])

    def test_all_calls_one_behind_another(self):
        self.assertEqual(answers(ALL_CALLS), ALL_ANSWERS)

    def test_plain_whole_numbers_in_a_list(self):
        given = answers(ALL_CALLS)
        self.assertIs(type(given), list)
        self.assertEqual({type(number) for number in given}, {int})

    def test_list_handed_in_is_as_it_was(self):
        calls = Locked(ALL_CALLS)
        self.assertEqual(answers(calls), ALL_ANSWERS)
        self.assertEqual(list(calls), ALL_CALLS)

    def test_answer_is_a_list_of_its_own(self):
        calls = []
        self.assertIsNot(answers(calls), calls)
        given = answers(ALL_CALLS)
        given.clear()
        self.assertEqual(answers(ALL_CALLS), ALL_ANSWERS)

    def test_nothing_is_kept_from_one_time_to_the_next(self):
        calls = et_begin(0, 0, [4]) + et_edit(0, take_out(1))
        self.assertEqual(answers(calls), [1, 0, 1, 1])
        self.assertEqual(answers(calls), [1, 0, 1, 1])
        self.assertEqual(answers(et_begin(0, 0, [4]) + et_edit(0, keep(1))), [1, 0, 1, 1])
        calls = et_begin(0, 1, []) + et_receive(0, 0, []) + et_revision(0)
        self.assertEqual(answers(calls), [1, 0, 1, 0, 1, 1])
        self.assertEqual(answers(calls), [1, 0, 1, 0, 1, 1])

    def test_texts_told_are_not_shared(self):
        calls = et_begin(0, 0, [4]) + et_begin(1, 1, [4]) + et_text(0) + et_text(1) + et_text(0)
        self.assertEqual(answers(calls), [1, 0, 1, 0] + [2, 1, 4] * 3)

    def test_300_calls(self):
        calls = et_begin(1, 0, []) + et_edit(1, []) * 299
        self.assertEqual(answers(calls), [1, 0, 1, 1] + [1, 0] * 298)
        text = [8] * 60
        self.assertEqual(answers(et_apply(keep(60), text) * 300), ([61, 60] + text) * 300)
        text = [9] * 28000
        self.assertEqual(answers(et_begin(1, 1, text) + et_text(1) * 299), [1, 0] + ([28001, 28000] + text) * 299)

    def test_as_long_as_a_list_may_be(self):
        e = (keep(1) + put_in([3])) * 2499
        text = [4] * 2499
        calls = et_apply(e, text)
        self.assertLessEqual(len(calls), 30000)
        self.assertEqual(answers(calls), [4999, 4998] + [4, 3] * 2499)
        back = (keep(1) + take_out(1)) * 2499
        self.assertEqual(answers(et_undo(e, text)), [len(back) + 1, len(back)] + back)


if __name__ == "__main__":
    unittest.main()
