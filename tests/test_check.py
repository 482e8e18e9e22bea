"""et_check, and what an edit is."""

import unittest

from onetext.edits import bytes_of_number, number_at
from tests.helper import ARGUMENTS, NO_EDIT, ask, ask_one, et_check, keep, put_in, step, take_out


class Counts(unittest.TestCase):
    def test_edit_of_no_steps(self):
        self.assertEqual(ask_one(et_check([])), [0, 0, 0])

    def test_one_step(self):
        self.assertEqual(ask_one(et_check(keep(7))), [1, 7, 7])
        self.assertEqual(ask_one(et_check(put_in([1, 2, 3]))), [1, 0, 3])
        self.assertEqual(ask_one(et_check(take_out(5))), [1, 5, 0])

    def test_several_steps(self):
        e = keep(2) + put_in([9, 8, 7]) + take_out(4) + keep(1)
        self.assertEqual(ask_one(et_check(e)), [4, 7, 6])

    def test_each_order_that_the_form_has(self):
        one = put_in([0])
        for e in (keep(1) + one, one + keep(1), keep(1) + take_out(1), take_out(1) + keep(1), one + take_out(1)):
            self.assertEqual(ask_one(et_check(e))[0], 2)

    def test_bytes_put_in_may_look_like_steps(self):
        self.assertEqual(ask_one(et_check(put_in(take_out(0) + [3, 255]))), [1, 0, 7])

    def test_the_number_is_four_bytes_the_lowest_first(self):
        self.assertEqual(ask_one(et_check([1, 5, 0, 0, 0])), [1, 5, 5])
        self.assertEqual(ask_one(et_check([1, 5, 1, 0, 0])), [1, 261, 261])
        self.assertEqual(ask_one(et_check([1, 0, 0, 1, 0])), [1, 65536, 65536])
        self.assertEqual(ask_one(et_check([3, 255, 255, 0, 0])), [1, 65535, 0])
        self.assertEqual(ask_one(et_check([1, 5, 0, 0, 1])), NO_EDIT)
        self.assertEqual(ask_one(et_check([2, 1, 1, 0, 0] + [4] * 257)), [1, 0, 257])

    def test_each_of_the_four_bytes(self):
        for number in (1, 256, 65536, 16777216, 67305985, 4294967295):
            written = list(number.to_bytes(4, "little"))
            self.assertEqual(number_at([9] + written, 1), number)
            self.assertEqual(bytes_of_number(number), written)

    def test_longest_rows_of_bytes(self):
        self.assertEqual(ask_one(et_check(put_in([6] * 29895))), [1, 0, 29895])
        self.assertEqual(ask_one(et_check((keep(1) + take_out(1)) * 2990)), [5980, 5980, 2990])


class NoEdit(unittest.TestCase):
    def refuse(self, e):
        self.assertEqual(ask_one(et_check(e)), NO_EDIT, e)

    def test_step_of_no_bytes(self):
        for kind in (1, 2, 3):
            self.refuse(step(kind, 0))
            self.refuse(step(kind, 0) + keep(1))
            self.refuse(keep(1) + step(kind, 0))

    def test_two_of_a_kind_side_by_side(self):
        for one in (keep(1), put_in([1]), take_out(1)):
            self.refuse(one + one)
            self.refuse(keep(3) + put_in([2]) + take_out(3) + keep(1) + one + one)

    def test_putting_in_behind_a_taking_out(self):
        self.refuse(take_out(1) + put_in([1]))
        self.refuse(keep(1) + put_in([1]) + take_out(1) + put_in([1]) + keep(1))

    def test_step_cut_off(self):
        whole = keep(1) + put_in([1, 2]) + take_out(1)
        good = [0, 5, 12, 17]
        for length in range(len(whole) + 1):
            self.assertEqual(ask_one(et_check(whole[:length])) == NO_EDIT, length not in good, length)
        self.refuse([2, 255, 255, 255, 255])
        self.refuse([2, 2, 0, 0, 0, 1])
        self.refuse([2, 1, 0, 0, 1, 1])

    def test_bytes_behind_the_last_step(self):
        self.refuse(put_in([1]) + [1])
        self.refuse(keep(1) + [0])

    def test_kind_that_there_is_not(self):
        for kind in (0, 4, 5, 128, 255):
            self.refuse(step(kind, 1))
            self.refuse(step(kind, 1, [1]))
            self.refuse(keep(1) + step(kind, 1))

    def test_text_that_is_too_long(self):
        self.assertEqual(ask_one(et_check(keep(65536))), [1, 65536, 65536])
        self.assertEqual(ask_one(et_check(take_out(65536))), [1, 65536, 0])
        self.assertEqual(ask_one(et_check(keep(1) + take_out(65535))), [2, 65536, 1])
        self.refuse(keep(65537))
        self.refuse(take_out(65537))
        self.refuse(keep(1) + take_out(65536))
        self.refuse(step(1, 4294967295))
        self.refuse(step(3, 4294967295))

    def test_text_that_becomes_too_long(self):
        self.assertEqual(ask_one(et_check(keep(65535) + put_in([1]))), [2, 65535, 65536])
        self.refuse(keep(65536) + put_in([1]))
        self.refuse(put_in([1]) + keep(65536))
        self.assertEqual(ask_one(et_check(put_in([1, 2]) + take_out(2) + keep(65534))), [3, 65536, 65536])
        self.refuse(put_in([1, 2, 3]) + take_out(2) + keep(65534))

    def test_each_call_by_itself(self):
        given = ask(et_check(keep(3)), et_check([7]), et_check([]), et_check(take_out(2)))
        self.assertEqual(given, [[1, 3, 3], NO_EDIT, [0, 0, 0], [1, 2, 0]])


class Arguments(unittest.TestCase):
    def test_longer_than_any_row_of_calls(self):
        self.assertEqual(ask_one(et_check(put_in([1] * 65536))), [1, 0, 65536])
        self.assertEqual(ask_one(et_check(put_in([1] * 65537))), NO_EDIT)
        self.assertEqual(ask_one(et_check([0] * 1048576)), NO_EDIT)
        self.assertEqual(ask_one(et_check([0] * 1048577)), ARGUMENTS)


if __name__ == "__main__":
    unittest.main()
