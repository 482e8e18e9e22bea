"""What the tests share: edits and calls written out, answers split, and a plain model."""

import itertools

from onetext.copies import answers

MOST = 2147483647
LEAST = -2147483648

ARGUMENTS = [-2]
NO_EDIT = [-3]
DOES_NOT_FIT = [-4]
TOO_LONG = [-6]
MORE_THAN_MOST = [-7]


def step(kind, count, data=()):
    return [kind] + list(count.to_bytes(4, "little")) + list(data)


def keep(count):
    return step(1, count)


def put_in(data):
    return step(2, len(data), data)


def take_out(count):
    return step(3, count)


def row(numbers):
    return [len(numbers)] + list(numbers)


def et_check(e):
    return [0] + row(e)


def et_apply(e, text, most=MOST):
    return [1, most] + row(e) + row(text)


def et_undo(e, text, most=MOST):
    return [2, most] + row(e) + row(text)


def et_compose(a, b, most=MOST):
    return [3, most] + row(a) + row(b)


def et_turn(which, a, b, most=MOST):
    return [4, which, most] + row(a) + row(b)


def et_begin(number, host, text):
    return [5, number, host] + row(text)


def et_edit(number, e):
    return [6, number] + row(e)


def split_answers(numbers):
    result = []
    place = 0
    while place < len(numbers):
        end = place + 1 + numbers[place]
        result.append(numbers[place + 1:end])
        place = end
    assert place == len(numbers)
    return result


def ask(*calls):
    """The answers to these calls, handed in as one list."""
    return split_answers(answers([number for call in calls for number in call]))


def ask_one(call):
    given = ask(call)
    assert len(given) == 1
    return given[0]


def counted(numbers):
    return [len(numbers)] + list(numbers)


# A plain model of edits, byte by byte: a unit is ("keep",), ("take",) or ("put", byte).


def units_of(e):
    result = []
    place = 0
    while place < len(e):
        count = int.from_bytes(bytes(e[place + 1:place + 5]), "little")
        if e[place] == 2:
            result += [("put", byte) for byte in e[place + 5:place + 5 + count]]
            place += count
        else:
            result += [("keep",) if e[place] == 1 else ("take",)] * count
        place += 5
    return result


def put_together(units):
    result = []
    for kept, group in itertools.groupby(units, lambda unit: unit[0] == "keep"):
        group = list(group)
        puts = [unit[1] for unit in group if unit[0] == "put"]
        takes = [unit for unit in group if unit[0] == "take"]
        if kept:
            result += keep(len(group))
        if puts:
            result += put_in(puts)
        if takes:
            result += take_out(len(takes))
    return result


def model_apply(e, text):
    rest = list(text)
    result = []
    for unit in units_of(e):
        if unit[0] == "put":
            result.append(unit[1])
        else:
            byte = rest.pop(0)
            if unit[0] == "keep":
                result.append(byte)
    assert rest == []
    return result


def model_compose(a, b):
    first = units_of(a)
    second = units_of(b)
    result = []
    while first or second:
        if second and second[0][0] == "put":
            result.append(second.pop(0))
        elif first[0][0] == "take":
            result.append(first.pop(0))
        else:
            mine = first.pop(0)
            other = second.pop(0)
            if other[0] == "keep":
                result.append(mine)
            elif mine[0] == "keep":
                result.append(other)
    return put_together(result)


def model_turn(a, b):
    first = units_of(a)
    second = units_of(b)
    turned_first = []
    turned_second = []
    while first or second:
        if first and first[0][0] == "put":
            turned_first.append(first.pop(0))
            turned_second.append(("keep",))
        elif second and second[0][0] == "put":
            turned_second.append(second.pop(0))
            turned_first.append(("keep",))
        else:
            mine = first.pop(0)
            other = second.pop(0)
            if other[0] == "keep":
                turned_first.append(mine)
            if mine[0] == "keep":
                turned_second.append(other)
    return (put_together(turned_first), put_together(turned_second))


def all_edits(length, puts):
    """Every edit of a text of this length whose puttings in, at each place, are of these."""
    found = {}
    for fates in itertools.product((("keep",), ("take",)), repeat=length):
        for rows in itertools.product(puts, repeat=length + 1):
            units = [("put", byte) for byte in rows[0]]
            for fate, data in zip(fates, rows[1:]):
                units += [fate] + [("put", byte) for byte in data]
            found[tuple(put_together(units))] = True
    return [list(e) for e in found]
