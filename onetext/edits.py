"""Edits: their steps, their one form, and their bytes.

A step is a tuple: its kind, how many bytes, and the bytes themselves (a list,
empty but for a putting in). An edit is the list of its steps, in the form.
"""

KEEP = 1
PUT_IN = 2
TAKE_OUT = 3

# Stands where there is no step: ahead of an edit's first, behind its last.
NO_STEP = 0

LONGEST_TEXT = 65536

# The kind, and how many in four bytes.
HEAD_LENGTH = 5


def length_before(edit):
    """How many bytes the texts have that the edit fits."""
    return sum([step[1] for step in edit if step[0] != PUT_IN])


def length_after(edit):
    """How many bytes the edit leaves."""
    return sum([step[1] for step in edit if step[0] != TAKE_OUT])


def number_at(numbers, place):
    low = numbers[place] + numbers[place + 1] * 256
    high = numbers[place + 2] + numbers[place + 3] * 256
    return low + high * 65536


def bytes_of_number(number):
    return [number % 256, number // 256 % 256, number // 65536 % 256, number // 16777216]


def step_at(numbers, place):
    """The step whose bytes begin at the place; None if none does."""
    if place + HEAD_LENGTH > len(numbers):
        return None
    kind = numbers[place]
    count = number_at(numbers, place + 1)
    if kind not in (KEEP, PUT_IN, TAKE_OUT) or count == 0:
        return None
    if kind != PUT_IN:
        return (kind, count, [])
    data = numbers[place + HEAD_LENGTH:place + HEAD_LENGTH + count]
    if len(data) < count:
        return None
    return (kind, count, data)


def may_follow(kind, earlier):
    """Whether the form lets a step of this kind stand behind one of the earlier kind."""
    if kind == earlier:
        return False
    return not (kind == PUT_IN and earlier == TAKE_OUT)


def edit_from_bytes(numbers):
    """The edit that has these bytes; None if they are no edit."""
    edit = []
    earlier = NO_STEP
    place = 0
    while place < len(numbers):
        step = step_at(numbers, place)
        if step is None or not may_follow(step[0], earlier):
            return None
        edit.append(step)
        earlier = step[0]
        place += HEAD_LENGTH + len(step[2])
    if length_before(edit) > LONGEST_TEXT or length_after(edit) > LONGEST_TEXT:
        return None
    return edit


def bytes_of_edit(edit):
    numbers = []
    for kind, count, data in edit:
        numbers.append(kind)
        numbers.extend(bytes_of_number(count))
        numbers.extend(data)
    return numbers
