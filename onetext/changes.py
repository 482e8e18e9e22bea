"""What edits do: applied, undone, composed, turned past one another.

Each takes edits that fit, as its caller has made sure.
"""

from onetext.edits import KEEP, NO_STEP, PUT_IN, TAKE_OUT
from onetext.rows import Cursor, Row


def applied(edit, text):
    """What the edit leaves of the text."""
    result = []
    place = 0
    for kind, count, data in edit:
        if kind == PUT_IN:
            result.extend(data)
        else:
            if kind == KEEP:
                result.extend(text[place:place + count])
            place += count
    return result


def undone(edit, text):
    """The edit that makes the text again of what this edit leaves of it."""
    row = Row()
    place = 0
    for kind, count, data in edit:
        if kind == PUT_IN:
            row.take_out(count)
        else:
            if kind == KEEP:
                row.keep(count)
            else:
                row.put_in(text[place:place + count])
            place += count
    return row.finished()


def compose_common(first, second, row):
    """Go over what the first keeps or puts in and the second keeps or takes out."""
    count = min(first.left, second.left)
    first_kind = first.kind
    second_kind = second.kind
    data = first.go_on(count)
    second.go_on(count)
    if first_kind == KEEP and second_kind == KEEP:
        row.keep(count)
    elif first_kind == KEEP:
        row.take_out(count)
    elif second_kind == KEEP:
        row.put_in(data)


def composed(a, b):
    """The edit that does a, then b."""
    first = Cursor(a)
    second = Cursor(b)
    row = Row()
    while first.kind != NO_STEP or second.kind != NO_STEP:
        if second.kind == PUT_IN:
            row.put_in(second.go_on(second.left))
        elif first.kind == TAKE_OUT:
            row.take_out(first.left)
            first.go_on(first.left)
        else:
            compose_common(first, second, row)
    return row.finished()


def turn_putting_in(cursor, own_row, other_row):
    """Go over what one edit puts in: once turned, the other keeps it."""
    other_row.keep(cursor.left)
    own_row.put_in(cursor.go_on(cursor.left))


def turn_common(first, second, first_row, second_row):
    """Go over bytes of the text that both edits start from."""
    count = min(first.left, second.left)
    first_kind = first.kind
    second_kind = second.kind
    first.go_on(count)
    second.go_on(count)
    if first_kind == KEEP and second_kind == KEEP:
        first_row.keep(count)
        second_row.keep(count)
    elif second_kind == KEEP:
        first_row.take_out(count)
    elif first_kind == KEEP:
        second_row.take_out(count)


def turned(a, b):
    """The pair of a turned past b, and b turned past a."""
    first = Cursor(a)
    second = Cursor(b)
    first_row = Row()
    second_row = Row()
    while first.kind != NO_STEP or second.kind != NO_STEP:
        if first.kind == PUT_IN:
            turn_putting_in(first, first_row, second_row)
        elif second.kind == PUT_IN:
            turn_putting_in(second, second_row, first_row)
        else:
            turn_common(first, second, first_row, second_row)
    return (first_row.finished(), second_row.finished())
