"""et_apply and et_undo."""

import unittest

from tests.helper import (ARGUMENTS, DOES_NOT_FIT, LEAST, MORE_THAN_MOST, NO_EDIT, all_edits, ask, ask_one, counted,
                          et_apply, et_undo, keep, model_apply, put_in, take_out)

TEXT = [10, 11, 12, 13, 14]
EDIT = keep(1) + put_in([90, 91]) + take_out(2) + keep(1) + take_out(1)
LEFT = [10, 90, 91, 13]
UNDO = keep(1) + put_in([11, 12]) + take_out(2) + keep(1) + put_in([14])


class Apply(unittest.TestCase):
    def test_kept_put_in_and_taken_out(self):
        self.assertEqual(ask_one(et_apply(EDIT, TEXT)), counted(LEFT))

    def test_one_step(self):
        self.assertEqual(ask_one(et_apply(keep(5), TEXT)), counted(TEXT))
        self.assertEqual(ask_one(et_apply(take_out(5), TEXT)), [0])
        self.assertEqual(ask_one(et_apply(put_in(TEXT), [])), counted(TEXT))

    def test_nothing_on_nothing(self):
        self.assertEqual(ask_one(et_apply([], [])), [0])
        self.assertEqual(ask_one(et_apply([], [], most=0)), [0])

    def test_every_byte(self):
        text = list(range(256))
        self.assertEqual(ask_one(et_apply(keep(256) + put_in(text), text)), counted(text + text))

    def test_long_text(self):
        text = [number % 251 for number in range(29900)]
        self.assertEqual(ask_one(et_apply(keep(29899) + take_out(1), text)), counted(text[:-1]))

    def test_longest_texts(self):
        text = [number % 251 for number in range(65536)]
        self.assertEqual(ask_one(et_apply(keep(65536), text)), counted(text))
        self.assertEqual(ask_one(et_apply(keep(65536), text + [1])), ARGUMENTS)


class Undo(unittest.TestCase):
    def test_kept_put_in_and_taken_out(self):
        self.assertEqual(ask_one(et_undo(EDIT, TEXT)), counted(UNDO))

    def test_one_step(self):
        self.assertEqual(ask_one(et_undo(keep(5), TEXT)), counted(keep(5)))
        self.assertEqual(ask_one(et_undo(take_out(5), TEXT)), counted(put_in(TEXT)))
        self.assertEqual(ask_one(et_undo(put_in(TEXT), [])), counted(take_out(5)))

    def test_nothing_on_nothing(self):
        self.assertEqual(ask_one(et_undo([], [])), [0])
        self.assertEqual(ask_one(et_undo([], [], most=0)), [0])

    def test_putting_in_goes_before_the_taking_out(self):
        self.assertEqual(ask_one(et_undo(put_in([1]) + take_out(2), [8, 9])), counted(put_in([8, 9]) + take_out(1)))

    def test_numbers_of_more_than_one_byte(self):
        text = [number % 251 for number in range(300)]
        self.assertEqual(ask_one(et_undo(take_out(300), text)), [305, 2, 44, 1, 0, 0] + text)
        self.assertEqual(ask_one(et_undo(keep(300), text)), [5, 1, 44, 1, 0, 0])

    def test_there_and_back(self):
        text = [1, 2, 3]
        for e in all_edits(3, ((), (7,), (8, 9))):
            left = ask_one(et_apply(e, text))[1:]
            self.assertEqual(left, model_apply(e, text))
            back = ask_one(et_undo(e, text))[1:]
            forth = ask_one(et_undo(back, left))[1:]
            self.assertEqual(ask(et_apply(back, left), et_apply(forth, text)), [counted(text), counted(left)])
            self.assertEqual(forth, e)


class Refusals(unittest.TestCase):
    def both(self, e, text, most, wanted):
        self.assertEqual(ask(et_apply(e, text, most), et_undo(e, text, most)), [wanted, wanted])

    def test_just_most_and_one_more(self):
        for call, result in ((et_apply, LEFT), (et_undo, UNDO)):
            self.assertEqual(ask_one(call(EDIT, TEXT, most=len(result))), counted(result))
            self.assertEqual(ask_one(call(EDIT, TEXT, most=len(result) - 1)), MORE_THAN_MOST)
            self.assertEqual(ask_one(call(EDIT, TEXT, most=0)), MORE_THAN_MOST)

    def test_most_below_0(self):
        self.both(EDIT, TEXT, -1, ARGUMENTS)
        self.both(EDIT, TEXT, LEAST, ARGUMENTS)
        self.both([], [], -1, ARGUMENTS)

    def test_no_edit(self):
        self.both(keep(2) + keep(3), TEXT, 100, NO_EDIT)
        self.both([1], [], 100, NO_EDIT)

    def test_does_not_fit(self):
        self.both(keep(4), TEXT, 100, DOES_NOT_FIT)
        self.both(keep(6), TEXT, 100, DOES_NOT_FIT)
        self.both(take_out(1), [], 100, DOES_NOT_FIT)
        self.both([], TEXT, 100, DOES_NOT_FIT)
        self.both(put_in([1] * 5), TEXT, 100, DOES_NOT_FIT)

    def test_which_comes_first(self):
        self.both([1], TEXT, -1, ARGUMENTS)
        self.both(keep(4), TEXT, -1, ARGUMENTS)
        self.both(keep(2) + keep(2), TEXT, 0, NO_EDIT)
        self.both(keep(4), TEXT, 0, DOES_NOT_FIT)

    def test_longer_than_any_row_of_calls(self):
        self.both([0] * 1048576, [], 100, NO_EDIT)
        self.both([0] * 1048577, [], 100, ARGUMENTS)
        self.both([0], [0] * 65537, 100, ARGUMENTS)


if __name__ == "__main__":
    unittest.main()
