"""Calls handed in one behind another, and their answers."""

from onetext.edit_calls import apply_to_text, check, compose, turn, undo_on_text
from onetext.object_calls import begin, confirmed, edit_by_hand, receive, remote, revision_of, state_of, text_of

ET_CHECK = 0
ET_APPLY = 1
ET_UNDO = 2
ET_COMPOSE = 3
ET_BEGIN = 5
ET_EDIT = 6
ET_REMOTE = 7
ET_CONFIRMED = 8
ET_RECEIVE = 9
ET_TEXT = 10
ET_REVISION = 11

# By a call's number: how many whole numbers it has, and how many rows.
SHAPES = ((0, 1), (1, 2), (1, 2), (1, 2), (2, 2), (2, 1), (1, 1), (2, 1), (2, 0), (3, 1), (2, 0), (1, 0), (1, 0))


def read_rows(calls, place, count):
    """So many rows from the place on, and where the last of them ends."""
    rows = []
    while len(rows) < count:
        start = place + 1
        place = start + calls[place]
        rows.append(calls[start:place])
    return (rows, place)


def answer_by_itself(call, numbers, rows):
    """What is answered to one of the calls that ask for no object."""
    if call == ET_CHECK:
        return check(rows[0])
    if call == ET_APPLY:
        return apply_to_text(numbers[0], rows[0], rows[1])
    if call == ET_UNDO:
        return undo_on_text(numbers[0], rows[0], rows[1])
    if call == ET_COMPOSE:
        return compose(numbers[0], rows[0], rows[1])
    # et_turn is the one that is left.
    return turn(numbers[0], numbers[1], rows[0], rows[1])


def answer_of_object(objects, call, numbers, rows):
    """What is answered to one of the calls on an object."""
    number = numbers[0]
    if call == ET_BEGIN:
        return begin(objects, number, numbers[1], rows[0])
    if call == ET_EDIT:
        return edit_by_hand(objects, number, rows[0])
    if call == ET_REMOTE:
        return remote(objects, number, numbers[1], rows[0])
    if call == ET_CONFIRMED:
        return confirmed(objects, number, numbers[1])
    if call == ET_RECEIVE:
        return receive(objects, number, numbers[1], numbers[2], rows[0])
    if call == ET_TEXT:
        return text_of(objects, number, numbers[1])
    if call == ET_REVISION:
        return revision_of(objects, number)
    # et_state is the one that is left.
    return state_of(objects, number)


def answer(objects, call, numbers, rows):
    if call < ET_BEGIN:
        return answer_by_itself(call, numbers, rows)
    return answer_of_object(objects, call, numbers, rows)


def answers(calls):
    """The answers to the calls, each with how many numbers it has before it."""
    objects = {}
    result = []
    place = 0
    while place < len(calls):
        call = calls[place]
        shape = SHAPES[call]
        rows_start = place + 1 + shape[0]
        read = read_rows(calls, rows_start, shape[1])
        answered = answer(objects, call, calls[place + 1:rows_start], read[0])
        result.append(len(answered))
        result.extend(answered)
        place = read[1]
    return result
