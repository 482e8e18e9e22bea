"""That all copies come to one text, and that any list of calls is answered as the model answers."""

import itertools
import random
import unittest

from tests.helper import (MOST, Model, ModelHost, all_edits, ask, counted, et_begin, et_confirmed, et_edit, et_receive,
                          et_remote, et_revision, et_state, et_text, keep, look, model_apply, put_in, put_together,
                          seen, take_out, units_before, units_of)

CALLS = {"begin": et_begin, "edit": et_edit, "remote": et_remote, "confirmed": et_confirmed, "receive": et_receive,
         "text": et_text, "revision": et_revision, "state": et_state}


def some_edit(source, length):
    """An edit of a text of this length, by the source's choice."""
    units = []
    while length > 0 or source.randrange(2):
        choice = source.randrange(4)
        count = source.randrange(1, 4)
        if choice == 0:
            units += [("put", source.randrange(256)) for place in range(count)]
        elif length > 0:
            units += [("take",) if choice == 1 else ("keep",)] * min(count, length)
            length -= min(count, length)
    return put_together(units)


class Net:
    """Hands and a host in one list of calls, and what is on its way between them."""

    def __init__(self, hands, host, text):
        self.hands = hands
        self.host = host
        self.calls = []
        self.given = []
        self.to_host = {hand: [] for hand in hands}
        self.to_hand = {hand: [] for hand in hands}
        self.texts = {hand: list(text) for hand in hands}
        for number in list(hands) + [host]:
            self.ask(et_begin(number, 1 if number == host else 0, text))

    def ask(self, call):
        self.calls.append(call)
        given = ask(*self.calls)
        assert given[:-1] == self.given, "the answers so far are others now"
        assert given[-1][0] >= 0, "refused"
        self.given = given
        return given[-1]

    def send(self, hand, e):
        self.to_host[hand].append((self.ask(et_revision(hand))[0], e))

    def edit(self, hand, e):
        self.texts[hand] = model_apply(e, self.texts[hand])
        if self.ask(et_edit(hand, e)) == [1]:
            self.send(hand, e)

    def put_in_order(self, hand):
        """The host gets what the hand has sent, and sends it on."""
        revision, e = self.to_host[hand].pop(0)
        put = self.ask(et_receive(self.host, revision, e))
        for other in self.hands:
            self.to_hand[other].append("confirmed" if other == hand else put[1:])

    def deliver(self, hand):
        """The hand gets the next that the host has sent it."""
        word = self.to_hand[hand].pop(0)
        if word != "confirmed":
            self.texts[hand] = model_apply(self.ask(et_remote(hand, word))[1:], self.texts[hand])
            return
        kept_back = self.ask(et_state(hand)) == [2]
        e = self.ask(et_confirmed(hand))[1:]
        if kept_back:
            self.send(hand, e)

    def settle(self, order):
        """Go on until nothing is on its way; the order says whose turn comes first."""
        while any(self.to_host.values()) or any(self.to_hand.values()):
            for hand in order:
                while self.to_hand[hand]:
                    self.deliver(hand)
                if self.to_host[hand]:
                    self.put_in_order(hand)

    def outcome(self):
        """The one text that all have come to, and the one revision."""
        text = self.ask(et_text(self.host))[1:]
        revision = self.ask(et_revision(self.host))[0]
        assert ask(*(self.calls + look(self.host)))[-3:] == seen(text, revision, 3)
        for hand in self.hands:
            assert ask(*(self.calls + look(hand)))[-3:] == seen(text, revision, 0), "a copy differs"
            assert self.texts[hand] == text, "the text isn't what the applied edits leave"
        return (text, revision)


class OneText(unittest.TestCase):
    def test_told_step_by_step(self):
        net = Net([0, 2], 1, [1, 2, 3])
        net.edit(0, keep(1) + put_in([8]) + keep(2))
        net.edit(2, keep(1) + put_in([9]) + take_out(1) + keep(1))
        net.edit(0, keep(2) + put_in([7]) + take_out(2))
        net.put_in_order(2)
        net.put_in_order(0)
        self.assertEqual(net.to_hand[2], ["confirmed", keep(1) + put_in([8]) + keep(2)])
        net.deliver(0)
        self.assertEqual(net.given[-1], counted(keep(3) + put_in([9])))
        net.deliver(2)
        net.deliver(2)
        net.deliver(0)
        self.assertEqual(net.to_host[0], [(2, keep(2) + put_in([7]) + keep(1) + take_out(1))])
        net.settle([0, 2])
        self.assertEqual(net.outcome(), ([1, 8, 7, 9], 3))

    def test_all_small_edits_of_three_hands(self):
        rows = [all_edits(1, ([], [byte])) for byte in (7, 8, 9)]
        for edits in itertools.product(*rows):
            net = Net([3, 0, 1], 2, [5])
            for hand, e in zip(net.hands, edits):
                net.edit(hand, e)
            for hand in net.hands:
                net.put_in_order(hand)
            net.settle(net.hands)
            text, revision = net.outcome()
            units = [unit for e in edits for unit in units_of(e)]
            left = [unit[1] for unit in units if unit[0] == "put"] + ([] if ("take",) in units else [5])
            self.assertEqual((sorted(text), revision), (sorted(left), 3))

    def test_all_small_edits_of_two_hands_with_one_kept_back(self):
        for first, other in itertools.product(all_edits(1, ([], [7])), all_edits(1, ([], [8]))):
            length = len(model_apply(first, [5]))
            for second in all_edits(length, ([], [9])):
                for order in ([0, 3], [3, 0]):
                    net = Net([0, 3], 1, [5])
                    net.edit(0, first)
                    net.edit(0, second)
                    net.edit(3, other)
                    net.settle(order)
                    self.assertEqual(net.outcome()[1], 3)

    def test_in_whatever_order_the_host_gets_them(self):
        for order in itertools.permutations((0, 1, 2)):
            net = Net([0, 1, 2], 3, [5, 6])
            for hand in net.hands:
                net.edit(hand, keep(1) + put_in([10 + hand]) + keep(1))
                net.edit(hand, keep(2) + put_in([20 + hand]) + take_out(1))
                net.edit(hand, take_out(1) + keep(2))
            for hand in order:
                net.put_in_order(hand)
            net.settle(order)
            # Whoever comes later comes first at the place, and so does what it kept back.
            text = [number for hand in reversed(order) for number in (10 + hand, 20 + hand)]
            self.assertEqual(net.outcome(), (text, 6))

    def test_by_chance_in_orders_that_differ(self):
        for seed in range(60):
            source = random.Random(seed)
            numbers = source.sample(range(4), 4)
            text = [source.randrange(256) for place in range(seed % 7)]
            net = Net(numbers[:source.randrange(1, 4)], numbers[3], text)
            for turn in range(25):
                hand = source.choice(net.hands)
                choice = source.randrange(3)
                if choice == 0:
                    net.edit(hand, some_edit(source, len(net.texts[hand])))
                elif choice == 1 and net.to_host[hand]:
                    net.put_in_order(hand)
                elif choice == 2 and net.to_hand[hand]:
                    net.deliver(hand)
            net.settle(source.sample(net.hands, len(net.hands)))
            net.outcome()


def fitting_length(source, name, copy):
    """How long a text the edit must fit, and for et_receive of which revision."""
    if isinstance(copy, ModelHost):
        revision = source.randrange(len(copy.texts))
        return (len(copy.texts[revision]), revision)
    if name == "remote" and copy.own:
        return (len(units_before(copy.own[0])), 0)
    return (len(copy.text), 0)


def some_call(source, model):
    """The name and arguments of a call, most often one that is not refused."""
    number = source.randrange(4)
    if number not in model.objects or source.randrange(40) == 0:
        host = source.choice((0, 0, 0, 1, 1, 2))
        return ("begin", (number, host, [source.randrange(256) for place in range(source.randrange(6))]))
    copy = model.objects[number]
    most = source.choice((MOST, MOST, MOST, source.randrange(30), -1))
    asked_most = ("receive",) if isinstance(copy, ModelHost) else ("edit", "edit", "remote", "confirmed")
    name = source.choice(asked_most * 3 + tuple(CALLS)[1:])
    if name in ("revision", "state"):
        return (name, (number,))
    if name in ("text", "confirmed"):
        return (name, (number, most))
    length, revision = fitting_length(source, name, copy)
    e = some_edit(source, max(0, length + source.choice((0, 0, 0, 0, 0, 0, 0, 1, -1))))
    if source.randrange(20) == 0:
        e = source.choice(([1], [2, 1, 0, 0, 0], keep(1) + keep(1), take_out(1) + put_in([1]), [4, 1, 0, 0, 0]))
    if name == "edit":
        return (name, (number, e))
    if name == "remote":
        return (name, (number, e, most))
    return (name, (number, revision + source.choice((0, 0, 0, 0, 0, 0, 1, -1)), e, most))


class LikeTheModel(unittest.TestCase):
    def test_by_chance(self):
        answered = {}
        for seed in range(150):
            source = random.Random(seed)
            model = Model()
            calls = []
            expected = []
            for turn in range(100):
                name, given = some_call(source, model)
                calls.append(CALLS[name](*given))
                expected.append(getattr(model, name)(*given))
                answered.setdefault(name, set()).add(min(expected[-1][0], 1))
            self.assertEqual(ask(*calls), expected, seed)
        self.assertLessEqual({-7, -4, -3, -2, 1}, answered["remote"] & answered["receive"])
        self.assertLessEqual({-7, -4, -2, 0, 1}, answered["confirmed"])
        self.assertLessEqual({-4, -3, 0, 1}, answered["edit"])


if __name__ == "__main__":
    unittest.main()
