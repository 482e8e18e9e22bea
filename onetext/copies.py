"""Calls handed in one behind another, and their answers."""

from onetext.edit_calls import apply_to_text, check, compose, turn, undo_on_text
from onetext.object_calls import begin, edit_by_hand

ET_CHECK = 0
ET_APPLY = 1
ET_UNDO = 2
ET_COMPOSE = 3
ET_TURN = 4
ET_BEGIN = 5

# By a call's number: how many whole numbers it has, and how many rows.
SHAPES = ((0, 1), (1, 2), (1, 2), (1, 2), (2, 2), (2, 1), (1, 1))


def read_rows(calls, place, count):
    """So many rows from the place on, and where the last of them ends."""
    rows = []
    while len(rows) < count:
        start = place + 1
        place = start + calls[place]
        rows.append(calls[start:place])
    return (rows, place)


def answer(objects, call, numbers, rows):
    if call == ET_CHECK:
        return check(rows[0])
    if call == ET_APPLY:
        return apply_to_text(numbers[0], rows[0], rows[1])
    if call == ET_UNDO:
        return undo_on_text(numbers[0], rows[0], rows[1])
    if call == ET_COMPOSE:
        return compose(numbers[0], rows[0], rows[1])
    if call == ET_TURN:
        return turn(numbers[0], numbers[1], rows[0], rows[1])
    if call == ET_BEGIN:
        return begin(objects, numbers[0], numbers[1], rows[0])
    # et_edit is the one that is left.
    return edit_by_hand(objects, numbers[0], rows[0])


def answers(calls):
    """The answers to the calls, each with how many numbers it has before it."""
    objects = {}
    result = []
    place = 0
    while place < len(calls):
        call = calls[place]
        shape = SHAPES[call]
        rows_start = place + 1 + shape[0]
        read = read_rows(calls, rows_start, shape[1])
        answered = answer(objects, call, calls[place + 1:rows_start], read[0])
        result.append(len(answered))
        result.extend(answered)
        place = read[1]
    return result
