"""What the tests share: edits and calls written out, answers split, and a plain model."""

import itertools

from onetext.copies import answers

MOST = 2147483647
LEAST = -2147483648

ARGUMENTS = [-2]
NO_EDIT = [-3]
DOES_NOT_FIT = [-4]
TOO_LONG = [-6]
MORE_THAN_MOST = [-7]


def step(kind, count, data=()):
    return [kind] + list(count.to_bytes(4, "little")) + list(data)


def keep(count):
    return step(1, count)


def put_in(data):
    return step(2, len(data), data)


def take_out(count):
    return step(3, count)


def row(numbers):
    return [len(numbers)] + list(numbers)


def et_check(e):
    return [0] + row(e)


def et_apply(e, text, most=MOST):
    return [1, most] + row(e) + row(text)


def et_undo(e, text, most=MOST):
    return [2, most] + row(e) + row(text)


def et_compose(a, b, most=MOST):
    return [3, most] + row(a) + row(b)


def et_turn(which, a, b, most=MOST):
    return [4, which, most] + row(a) + row(b)


def et_begin(number, host, text):
    return [5, number, host] + row(text)


def et_edit(number, e):
    return [6, number] + row(e)


def et_remote(number, e, most=MOST):
    return [7, number, most] + row(e)


def et_confirmed(number, most=MOST):
    return [8, number, most]


def et_receive(number, revision, e, most=MOST):
    return [9, number, revision, most] + row(e)


def et_text(number, most=MOST):
    return [10, number, most]


def et_revision(number):
    return [11, number]


def et_state(number):
    return [12, number]


def look(number):
    """Calls that tell what there is to be seen of an object, and change nothing."""
    return [et_text(number), et_revision(number), et_state(number)]


def seen(text, revision, state):
    """What look's calls answer."""
    return [counted(text), [revision], [state]]


def split_answers(numbers):
    result = []
    place = 0
    while place < len(numbers):
        end = place + 1 + numbers[place]
        result.append(numbers[place + 1:end])
        place = end
    assert place == len(numbers)
    return result


def ask(*calls):
    """The answers to these calls, handed in as one list."""
    return split_answers(answers([number for call in calls for number in call]))


def ask_one(call):
    given = ask(call)
    assert len(given) == 1
    return given[0]


def counted(numbers):
    return [len(numbers)] + list(numbers)


# A plain model of edits, byte by byte: a unit is ("keep",), ("take",) or ("put", byte).


def units_of(e):
    result = []
    place = 0
    while place < len(e):
        count = int.from_bytes(bytes(e[place + 1:place + 5]), "little")
        if e[place] == 2:
            result += [("put", byte) for byte in e[place + 5:place + 5 + count]]
            place += count
        else:
            result += [("keep",) if e[place] == 1 else ("take",)] * count
        place += 5
    return result


def units_before(e):
    return [unit for unit in units_of(e) if unit[0] != "put"]


def put_together(units):
    result = []
    for kept, group in itertools.groupby(units, lambda unit: unit[0] == "keep"):
        group = list(group)
        puts = [unit[1] for unit in group if unit[0] == "put"]
        takes = [unit for unit in group if unit[0] == "take"]
        if kept:
            result += keep(len(group))
        if puts:
            result += put_in(puts)
        if takes:
            result += take_out(len(takes))
    return result


def model_apply(e, text):
    rest = list(text)
    result = []
    for unit in units_of(e):
        if unit[0] == "put":
            result.append(unit[1])
        else:
            byte = rest.pop(0)
            if unit[0] == "keep":
                result.append(byte)
    assert rest == []
    return result


def model_compose(a, b):
    first = units_of(a)
    second = units_of(b)
    result = []
    while first or second:
        if second and second[0][0] == "put":
            result.append(second.pop(0))
        elif first[0][0] == "take":
            result.append(first.pop(0))
        else:
            mine = first.pop(0)
            other = second.pop(0)
            if other[0] == "keep":
                result.append(mine)
            elif mine[0] == "keep":
                result.append(other)
    return put_together(result)


def model_turn(a, b):
    first = units_of(a)
    second = units_of(b)
    turned_first = []
    turned_second = []
    while first or second:
        if first and first[0][0] == "put":
            turned_first.append(first.pop(0))
            turned_second.append(("keep",))
        elif second and second[0][0] == "put":
            turned_second.append(second.pop(0))
            turned_first.append(("keep",))
        else:
            mine = first.pop(0)
            other = second.pop(0)
            if other[0] == "keep":
                turned_first.append(mine)
            if mine[0] == "keep":
                turned_second.append(other)
    return (put_together(turned_first), put_together(turned_second))


def all_edits(length, puts):
    """Every edit of a text of this length whose puttings in, at each place, are of these."""
    found = {}
    for fates in itertools.product((("keep",), ("take",)), repeat=length):
        for rows in itertools.product(puts, repeat=length + 1):
            units = [("put", byte) for byte in rows[0]]
            for fate, data in zip(fates, rows[1:]):
                units += [fate] + [("put", byte) for byte in data]
            found[tuple(put_together(units))] = True
    return [list(e) for e in found]


def is_edit(e):
    """By et_check, which has tests of its own."""
    return ask_one(et_check(e)) != NO_EDIT


class ModelHand:
    def __init__(self, text):
        self.text = list(text)
        self.revision = 0
        self.own = []


class ModelHost:
    def __init__(self, text):
        self.texts = [list(text)]
        self.edits = []


class Model:
    """The four objects by the words of the document; own has what's out, then what's kept back.

    Each method takes what the call of its name takes in this file, and gives back what is answered.
    It knows nothing of too long texts: those have tests of their own.
    """

    def __init__(self):
        self.objects = {}

    def begin(self, number, host, text):
        if host not in (0, 1):
            return ARGUMENTS
        self.objects[number] = ModelHost(text) if host else ModelHand(text)
        return [0]

    def edit(self, number, e):
        if not is_edit(e):
            return NO_EDIT
        hand = self.objects[number]
        if isinstance(hand, ModelHost) or len(units_before(e)) != len(hand.text):
            return DOES_NOT_FIT
        hand.text = model_apply(e, hand.text)
        if len(hand.own) == 2:
            hand.own[1] = model_compose(hand.own[1], e)
        else:
            hand.own = hand.own + [e]
        return [1 if len(hand.own) == 1 else 0]

    def remote(self, number, e, most=MOST):
        if most < 0:
            return ARGUMENTS
        if not is_edit(e):
            return NO_EDIT
        hand = self.objects[number]
        if isinstance(hand, ModelHost):
            return DOES_NOT_FIT
        fits = len(units_before(hand.own[0])) if hand.own else len(hand.text)
        if len(units_before(e)) != fits:
            return DOES_NOT_FIT
        own = []
        for mine in hand.own:
            mine, e = model_turn(mine, e)
            own.append(mine)
        if len(e) > most:
            return MORE_THAN_MOST
        hand.text = model_apply(e, hand.text)
        hand.own = own
        hand.revision += 1
        return counted(e)

    def confirmed(self, number, most=MOST):
        if most < 0:
            return ARGUMENTS
        hand = self.objects[number]
        if isinstance(hand, ModelHost) or not hand.own:
            return DOES_NOT_FIT
        if len(hand.own) == 2 and len(hand.own[1]) > most:
            return MORE_THAN_MOST
        hand.own = hand.own[1:]
        hand.revision += 1
        return counted(hand.own[0]) if hand.own else [0]

    def receive(self, number, revision, e, most=MOST):
        if revision < 0 or most < 0:
            return ARGUMENTS
        if not is_edit(e):
            return NO_EDIT
        host = self.objects[number]
        if isinstance(host, ModelHand) or revision > len(host.edits):
            return DOES_NOT_FIT
        if len(units_before(e)) != len(host.texts[revision]):
            return DOES_NOT_FIT
        if len(host.edits) == 64:
            return TOO_LONG
        for earlier in host.edits[revision:]:
            e = model_turn(e, earlier)[0]
        if len(e) > most:
            return MORE_THAN_MOST
        host.texts.append(model_apply(e, host.texts[-1]))
        host.edits.append(e)
        return counted(e)

    def text(self, number, most=MOST):
        copy = self.objects[number]
        text = copy.texts[-1] if isinstance(copy, ModelHost) else copy.text
        if most < 0:
            return ARGUMENTS
        return MORE_THAN_MOST if len(text) > most else counted(text)

    def revision(self, number):
        copy = self.objects[number]
        return [len(copy.edits) if isinstance(copy, ModelHost) else copy.revision]

    def state(self, number):
        copy = self.objects[number]
        return [3 if isinstance(copy, ModelHost) else len(copy.own)]
