"""The calls on the four objects: et_begin and et_edit.

The objects are a dict, from an object's number to its hand or host once begun.
Each call gives back the list of what is answered.
"""

from onetext.edits import edit_from_bytes, length_before
from onetext.hands import Hand, Host
from onetext.refusals import ARGUMENTS, DOES_NOT_FIT, NO_EDIT, bad_edit_length, bad_text_length


def begin(objects, number, host, text):
    if bad_text_length(text) or host not in (0, 1):
        return [ARGUMENTS]
    if host == 1:
        objects[number] = Host(text)
    else:
        objects[number] = Hand(text)
    return [0]


def edit_by_hand(objects, number, e):
    if bad_edit_length(e):
        return [ARGUMENTS]
    edit = edit_from_bytes(e)
    if edit is None:
        return [NO_EDIT]
    hand = objects[number]
    if isinstance(hand, Host) or length_before(edit) != len(hand.text):
        return [DOES_NOT_FIT]
    if hand.change(edit):
        return [1]
    return [0]
