"""et_begin and et_edit, and what a hand and the host have."""

import unittest

from onetext.edits import bytes_of_edit, edit_from_bytes
from onetext.hands import Hand, Host
from onetext.object_calls import begin, edit_by_hand
from tests.helper import (ARGUMENTS, DOES_NOT_FIT, LEAST, MOST, NO_EDIT, ask, et_begin, et_edit, keep, put_in,
                          take_out)

TEXT = [1, 2, 3]


class Begin(unittest.TestCase):
    def test_hand_and_host(self):
        self.assertEqual(ask(et_begin(0, 0, TEXT), et_begin(1, 1, TEXT), et_begin(3, 0, [])), [[0], [0], [0]])

    def test_host_other_than_0_or_1(self):
        for host in (-1, 2, LEAST, MOST):
            self.assertEqual(ask(et_begin(0, host, TEXT)), [ARGUMENTS])

    def test_long_texts(self):
        self.assertEqual(ask(et_begin(2, 0, [5] * 29900), et_edit(2, keep(29900))), [[0], [1]])
        self.assertEqual(ask(et_begin(2, 0, [5] * 65536), et_edit(2, take_out(65536))), [[0], [1]])
        self.assertEqual(ask(et_begin(2, 0, [5] * 65537)), [ARGUMENTS])
        self.assertEqual(ask(et_begin(2, 1, [5] * 65537)), [ARGUMENTS])

    def test_begun_again(self):
        given = ask(et_begin(0, 0, TEXT), et_edit(0, keep(3)), et_edit(0, keep(3)),
                    et_begin(0, 0, [4]), et_edit(0, keep(3)), et_edit(0, keep(1)), et_edit(0, keep(1)))
        self.assertEqual(given, [[0], [1], [0], [0], DOES_NOT_FIT, [1], [0]])

    def test_begun_again_as_the_other(self):
        given = ask(et_begin(0, 1, TEXT), et_edit(0, keep(3)), et_begin(0, 0, TEXT), et_edit(0, keep(3)),
                    et_begin(0, 1, TEXT), et_edit(0, keep(3)))
        self.assertEqual(given, [[0], DOES_NOT_FIT, [0], [1], [0], DOES_NOT_FIT])

    def test_refused_leaves_all_as_it_was(self):
        given = ask(et_begin(0, 0, TEXT), et_edit(0, take_out(3)), et_begin(0, 2, TEXT), et_edit(0, []),
                    et_begin(0, -1, []), et_edit(0, put_in([1])), et_edit(0, keep(1)))
        self.assertEqual(given, [[0], [1], ARGUMENTS, [0], ARGUMENTS, [0], [0]])

    def test_what_they_have(self):
        objects = {}
        self.assertEqual(begin(objects, 0, 0, TEXT), [0])
        self.assertEqual(begin(objects, 3, 1, TEXT), [0])
        self.assertEqual(sorted(objects), [0, 3])
        hand = objects[0]
        self.assertIsInstance(hand, Hand)
        self.assertEqual((hand.text, hand.revision, hand.out, hand.kept_back), (TEXT, 0, None, None))
        self.assertIsInstance(objects[3], Host)
        self.assertEqual((objects[3].text, objects[3].edits), (TEXT, []))


class Edit(unittest.TestCase):
    def test_out_then_kept_back(self):
        given = ask(et_begin(0, 0, TEXT), et_edit(0, keep(3) + put_in([4])), et_edit(0, keep(4)),
                    et_edit(0, take_out(4)), et_edit(0, []))
        self.assertEqual(given, [[0], [1], [0], [0], [0]])

    def test_edit_of_no_steps_is_out_too(self):
        self.assertEqual(ask(et_begin(0, 0, []), et_edit(0, []), et_edit(0, []), et_edit(0, [])), [[0], [1], [0], [0]])

    def test_each_must_fit_the_text_as_it_is_now(self):
        given = ask(et_begin(0, 0, TEXT), et_edit(0, keep(1) + take_out(2)), et_edit(0, keep(3)),
                    et_edit(0, keep(1) + put_in([7])), et_edit(0, keep(1)), et_edit(0, keep(2)))
        self.assertEqual(given, [[0], [1], DOES_NOT_FIT, [0], DOES_NOT_FIT, [0]])

    def test_the_host_does_not_edit(self):
        self.assertEqual(ask(et_begin(0, 1, TEXT), et_edit(0, keep(3)), et_edit(0, keep(2))),
                         [[0], DOES_NOT_FIT, DOES_NOT_FIT])

    def test_no_edit(self):
        given = ask(et_begin(0, 0, TEXT), et_edit(0, keep(1) + keep(2)), et_edit(0, [1]), et_edit(0, keep(3)))
        self.assertEqual(given, [[0], NO_EDIT, NO_EDIT, [1]])

    def test_which_refusal_comes_first(self):
        given = ask(et_begin(0, 0, TEXT), et_edit(0, keep(1) + keep(1)), et_begin(1, 1, TEXT), et_edit(1, [9]),
                    et_edit(1, [0] * 1048577), et_edit(0, [0] * 1048577), et_edit(0, [0] * 1048576))
        self.assertEqual(given, [[0], NO_EDIT, [0], NO_EDIT, ARGUMENTS, ARGUMENTS, NO_EDIT])

    def test_refused_leaves_all_as_it_was(self):
        given = ask(et_begin(0, 0, TEXT), et_edit(0, keep(2)), et_edit(0, [1]), et_edit(0, keep(65537)),
                    et_edit(0, keep(3)), et_edit(0, keep(4)), et_edit(0, keep(3)))
        self.assertEqual(given, [[0], DOES_NOT_FIT, NO_EDIT, NO_EDIT, [1], DOES_NOT_FIT, [0]])

    def test_text_as_long_as_may_be(self):
        given = ask(et_begin(0, 0, [5] * 65535), et_edit(0, keep(65535) + put_in([6])),
                    et_edit(0, keep(65536) + put_in([6])), et_edit(0, take_out(65536)))
        self.assertEqual(given, [[0], [1], NO_EDIT, [0]])

    def test_four_objects_side_by_side(self):
        begun = [et_begin(number, 0, [9] * number) for number in range(4)]
        first = [et_edit(number, put_in([7]) + keep(number) if number else put_in([7])) for number in range(4)]
        second = [et_edit(number, keep(number + 1)) for number in (3, 1, 0, 2)]
        wrong = [et_edit(number, keep(5)) for number in range(4)]
        given = ask(*(begun + first + wrong + second))
        self.assertEqual(given, [[0]] * 4 + [[1]] * 4 + [DOES_NOT_FIT] * 4 + [[0]] * 4)

    def edit_in_turn(self, rows):
        objects = {}
        begin(objects, 0, 0, TEXT)
        for e in rows:
            self.assertIn(edit_by_hand(objects, 0, e), ([0], [1]))
        return objects[0]

    def test_text_is_changed_and_the_edit_is_out(self):
        e = keep(1) + put_in([8]) + take_out(2)
        hand = self.edit_in_turn([e])
        self.assertEqual((hand.text, hand.revision, hand.kept_back), ([1, 8], 0, None))
        self.assertEqual(bytes_of_edit(hand.out), e)

    def test_kept_back_is_composed(self):
        out = keep(3) + put_in([4])
        hand = self.edit_in_turn([out, take_out(1) + keep(3)])
        self.assertEqual((hand.text, hand.revision), ([2, 3, 4], 0))
        self.assertEqual(bytes_of_edit(hand.out), out)
        self.assertEqual(bytes_of_edit(hand.kept_back), take_out(1) + keep(3))
        hand = self.edit_in_turn([out, take_out(1) + keep(3), put_in([5]) + keep(3), keep(1) + take_out(3)])
        self.assertEqual(hand.text, [5])
        self.assertEqual(bytes_of_edit(hand.out), out)
        self.assertEqual(bytes_of_edit(hand.kept_back), put_in([5]) + take_out(4))

    def test_refused_leaves_what_is_out_and_kept_back(self):
        objects = {}
        begin(objects, 0, 0, TEXT)
        for e in (keep(3), take_out(3)):
            edit_by_hand(objects, 0, e)
        for e in (keep(3), [9], [0] * 1048577):
            edit_by_hand(objects, 0, e)
        hand = objects[0]
        self.assertEqual((hand.text, hand.revision), ([], 0))
        self.assertEqual((hand.out, hand.kept_back), (edit_from_bytes(keep(3)), edit_from_bytes(take_out(3))))

    def test_host_is_as_it_was(self):
        objects = {}
        begin(objects, 0, 1, TEXT)
        edit_by_hand(objects, 0, take_out(3))
        self.assertEqual((objects[0].text, objects[0].edits), (TEXT, []))


if __name__ == "__main__":
    unittest.main()
