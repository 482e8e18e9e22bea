"""The calls that are each by themselves: et_check to et_turn.

Each takes a call's numbers and rows, and gives back the list of what is answered.
"""

from onetext.changes import applied, composed, turned, undone
from onetext.edits import LONGEST_TEXT, bytes_of_edit, edit_from_bytes, length_after, length_before
from onetext.refusals import ARGUMENTS, DOES_NOT_FIT, NO_EDIT, TOO_LONG, bad_edit_length, bad_text_length, counted


def check(e):
    if bad_edit_length(e):
        return [ARGUMENTS]
    edit = edit_from_bytes(e)
    if edit is None:
        return [NO_EDIT]
    return [len(edit), length_before(edit), length_after(edit)]


def refused_on_text(most, e, edit, text):
    """The refusal of an edit on a text, or None; edit is what the bytes e stand for."""
    if bad_edit_length(e) or bad_text_length(text) or most < 0:
        return ARGUMENTS
    if edit is None:
        return NO_EDIT
    if length_before(edit) != len(text):
        return DOES_NOT_FIT
    return None


def apply_to_text(most, e, text):
    edit = edit_from_bytes(e)
    refusal = refused_on_text(most, e, edit, text)
    if refusal is not None:
        return [refusal]
    return counted(applied(edit, text), most)


def undo_on_text(most, e, text):
    edit = edit_from_bytes(e)
    refusal = refused_on_text(most, e, edit, text)
    if refusal is not None:
        return [refusal]
    return counted(bytes_of_edit(undone(edit, text)), most)


def compose(most, a, b):
    if bad_edit_length(a) or bad_edit_length(b) or most < 0:
        return [ARGUMENTS]
    first = edit_from_bytes(a)
    second = edit_from_bytes(b)
    if first is None or second is None:
        return [NO_EDIT]
    if length_after(first) != length_before(second):
        return [DOES_NOT_FIT]
    return counted(bytes_of_edit(composed(first, second)), most)


def turn(which, most, a, b):
    if bad_edit_length(a) or bad_edit_length(b) or most < 0 or which not in (0, 1):
        return [ARGUMENTS]
    first = edit_from_bytes(a)
    second = edit_from_bytes(b)
    if first is None or second is None:
        return [NO_EDIT]
    if length_before(first) != length_before(second):
        return [DOES_NOT_FIT]
    pair = turned(first, second)
    # Both leave the same text, so either's length tells.
    if length_after(pair[0]) > LONGEST_TEXT:
        return [TOO_LONG]
    return counted(bytes_of_edit(pair[which]), most)
