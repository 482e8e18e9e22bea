"""et_text, et_revision and et_state: what an object tells of itself."""

import unittest

from tests.helper import (ARGUMENTS, LEAST, MORE_THAN_MOST, MOST, ask, counted, et_begin, et_confirmed, et_edit,
                          et_receive, et_remote, et_revision, et_state, et_text, keep, look, put_in, seen, take_out)

TEXT = [1, 0, 255]


class Text(unittest.TestCase):
    def test_of_a_hand_and_of_the_host(self):
        given = ask(et_begin(0, 0, TEXT), et_begin(3, 1, [4, 5]), et_text(0), et_text(3), et_text(0))
        self.assertEqual(given[2:], [[3, 1, 0, 255], [2, 4, 5], [3, 1, 0, 255]])

    def test_empty(self):
        given = ask(et_begin(0, 0, []), et_begin(1, 1, []), et_text(0, 0), et_text(1, 0))
        self.assertEqual(given[2:], [[0], [0]])

    def test_just_most_and_one_more(self):
        for host in (0, 1):
            given = ask(et_begin(0, host, TEXT), et_text(0, 3), et_text(0, 2), et_text(0, 0), et_text(0, 4))
            self.assertEqual(given[1:], [counted(TEXT), MORE_THAN_MOST, MORE_THAN_MOST, counted(TEXT)])

    def test_most_below_0(self):
        for host in (0, 1):
            for text in ([], TEXT):
                given = ask(et_begin(0, host, text), et_text(0, -1), et_text(0, LEAST), *look(0))
                self.assertEqual(given[1:], [ARGUMENTS, ARGUMENTS] + seen(text, 0, 3 * host))

    def test_longest(self):
        text = [number % 256 for number in range(65536)]
        for host in (0, 1):
            given = ask(et_begin(0, host, text), et_text(0, 65536), et_text(0, 65535))
            self.assertEqual(given[1:], [counted(text), MORE_THAN_MOST])

    def test_is_changed_by_edits(self):
        given = ask(et_begin(0, 0, TEXT), et_edit(0, keep(3) + put_in([7])), et_text(0),
                    et_edit(0, take_out(1) + keep(3)), et_text(0), et_remote(0, take_out(2) + keep(1)), et_text(0),
                    et_confirmed(0), et_text(0))
        self.assertEqual(given[2::2], [counted(TEXT + [7]), counted([0, 255, 7]), counted([255, 7]), counted([255, 7])])
        given = ask(et_begin(0, 1, TEXT), et_receive(0, 0, take_out(3)), et_text(0),
                    et_receive(0, 0, put_in([6]) + keep(3)), et_text(0))
        self.assertEqual(given[2::2], [counted([]), counted([6])])


class Revision(unittest.TestCase):
    def test_of_a_hand(self):
        changes = [et_begin(0, 0, []), et_edit(0, []), et_remote(0, []), et_edit(0, []), et_confirmed(0),
                   et_remote(0, []), et_confirmed(0)]
        given = ask(*[call for change in changes for call in (change, et_revision(0))])
        self.assertEqual(given[1::2], [[0], [0], [1], [1], [2], [3], [4]])

    def test_of_the_host(self):
        calls = [et_begin(2, 1, []), et_revision(2)] + [et_receive(2, 0, []), et_revision(2)] * 64
        self.assertEqual(ask(*calls)[1::2], [[count] for count in range(65)])

    def test_a_hand_may_know_of_more_than_64(self):
        given = ask(et_begin(0, 0, []), *([et_remote(0, [])] * 200), et_revision(0))
        self.assertEqual(given[-1], [200])


class State(unittest.TestCase):
    def test_of_a_hand(self):
        given = ask(et_begin(0, 0, []), et_state(0), et_edit(0, []), et_state(0), et_edit(0, []), et_state(0),
                    et_edit(0, []), et_state(0), et_remote(0, []), et_state(0), et_confirmed(0), et_state(0),
                    et_remote(0, []), et_state(0), et_confirmed(0), et_state(0), et_remote(0, []), et_state(0))
        self.assertEqual(given[1::2], [[0], [1], [2], [2], [2], [1], [1], [0], [0]])

    def test_of_the_host(self):
        given = ask(et_begin(1, 1, []), et_state(1), et_receive(1, 0, []), et_state(1))
        self.assertEqual(given[1::2], [[3], [3]])


class BegunAgain(unittest.TestCase):
    def test_a_hand_as_a_hand(self):
        given = ask(et_begin(0, 0, TEXT), et_remote(0, keep(3)), et_edit(0, take_out(3)), et_edit(0, []), *look(0),
                    et_begin(0, 0, [9]), *look(0), et_confirmed(0), et_edit(0, keep(1)))
        self.assertEqual(given[4:], seen([], 1, 2) + [[0]] + seen([9], 0, 0) + [[-4], [1]])

    def test_a_hand_as_the_host(self):
        given = ask(et_begin(0, 0, TEXT), et_remote(0, keep(3)), et_edit(0, take_out(3)), et_edit(0, []),
                    et_begin(0, 1, [9]), *look(0), et_edit(0, keep(1)), et_remote(0, keep(1)), et_confirmed(0),
                    et_receive(0, 0, keep(1)), *look(0))
        self.assertEqual(given[4:], [[0]] + seen([9], 0, 3) + [[-4], [-4], [-4], counted(keep(1))] + seen([9], 1, 3))

    def test_the_host_as_a_hand(self):
        given = ask(et_begin(0, 1, TEXT), et_receive(0, 0, keep(3)), et_receive(0, 1, take_out(3)), *look(0),
                    et_begin(0, 0, [9]), *look(0), et_receive(0, 0, keep(1)), et_remote(0, keep(1)), *look(0))
        self.assertEqual(given[3:], seen([], 2, 3) + [[0]] + seen([9], 0, 0) + [[-4], counted(keep(1))] +
                         seen([9], 1, 0))

    def test_the_host_as_the_host(self):
        given = ask(et_begin(0, 1, TEXT), et_receive(0, 0, keep(3)), et_begin(0, 1, [9]), *look(0),
                    et_receive(0, 1, keep(1)), et_receive(0, 0, keep(3)), et_receive(0, 0, keep(1)))
        self.assertEqual(given[2:], [[0]] + seen([9], 0, 3) + [[-4], [-4], counted(keep(1))])

    def test_refused_leaves_it_as_it_was(self):
        given = ask(et_begin(0, 0, TEXT), et_edit(0, take_out(3)), et_begin(0, 2, [9]), *look(0),
                    et_begin(1, 1, TEXT), et_receive(1, 0, take_out(3)), et_begin(1, -1, [9]), *look(1))
        self.assertEqual(given[2:6], [ARGUMENTS] + seen([], 0, 1))
        self.assertEqual(given[8:], [ARGUMENTS] + seen([], 1, 3))

    def test_the_others_stay(self):
        given = ask(et_begin(0, 0, TEXT), et_begin(1, 0, TEXT), et_begin(2, 1, TEXT), et_edit(0, keep(3)),
                    et_edit(1, take_out(3)), et_receive(2, 0, keep(3)), et_begin(1, 1, [4]),
                    *look(0), *look(1), *look(2))
        self.assertEqual(given[7:], seen(TEXT, 0, 1) + seen([4], 0, 3) + seen(TEXT, 1, 3))


class SideBySide(unittest.TestCase):
    def test_calls_of_one_between_those_of_another(self):
        rows = {0: [et_begin(0, 0, TEXT), et_edit(0, put_in([7]) + keep(3)), et_remote(0, take_out(3)),
                    et_edit(0, take_out(1)), et_confirmed(0)] + look(0),
                1: [et_begin(1, 1, TEXT), et_receive(1, 0, take_out(3)), et_receive(1, 0, put_in([6]) + keep(3)),
                    et_receive(1, 3, []), et_receive(1, 2, keep(1))] + look(1),
                2: [et_begin(2, 0, []), et_confirmed(2), et_remote(2, put_in([1, 2])), et_edit(2, keep(2)),
                    et_edit(2, take_out(2))] + look(2),
                3: [et_begin(3, 1, []), et_receive(3, 0, put_in([5])), et_remote(3, []), et_receive(3, 0, [], 2),
                    et_receive(3, 1, keep(1))] + look(3)}
        alone = {number: ask(*calls) for number, calls in rows.items()}
        for order in ((0, 1, 2, 3), (3, 1, 0, 2), (2, 3, 1, 0)):
            mixed = [rows[number][place] for place in range(8) for number in order]
            expected = [alone[number][place] for place in range(8) for number in order]
            self.assertEqual(ask(*mixed), expected)

    def test_calls_that_are_by_themselves_change_nothing(self):
        between = [[0, 0], [1, MOST] + [0, 1, 9], [3, MOST, 0, 0]]
        calls = [et_begin(0, 0, TEXT), et_edit(0, keep(3)), et_remote(0, take_out(3))] + look(0)
        mixed = [part for call in calls for part in [call] + between]
        self.assertEqual(ask(*mixed)[::4], ask(*calls))


if __name__ == "__main__":
    unittest.main()
