"""The calls on the four objects: et_begin to et_state.

The objects are a dict, from an object's number to its hand or host once begun.
Each call gives back the list of what is answered.
"""

from onetext.edits import LONGEST_TEXT, bytes_of_edit, edit_from_bytes, length_after, length_before
from onetext.hands import Hand, Host, turned_past_own
from onetext.refusals import ARGUMENTS, DOES_NOT_FIT, NO_EDIT, TOO_LONG, bad_edit_length, bad_text_length, counted

LAST_REVISION = 2147483647
MOST_EDITS = 64

# What et_state answers.
NOTHING_OUT = 0
ONE_OUT = 1
ONE_KEPT_BACK = 2
THE_HOST = 3


def begin(objects, number, host, text):
    if bad_text_length(text) or host not in (0, 1):
        return [ARGUMENTS]
    if host == 1:
        objects[number] = Host(text)
    else:
        objects[number] = Hand(text)
    return [0]


def edit_by_hand(objects, number, e):
    if bad_edit_length(e):
        return [ARGUMENTS]
    edit = edit_from_bytes(e)
    if edit is None:
        return [NO_EDIT]
    hand = objects[number]
    if isinstance(hand, Host) or length_before(edit) != len(hand.text):
        return [DOES_NOT_FIT]
    if hand.change(edit):
        return [1]
    return [0]


def follow_remote(hand, most, edit):
    """What et_remote answers of a hand whose text, without its own edits, the edit fits."""
    past_out = turned_past_own(hand.out, edit)
    past_both = turned_past_own(hand.kept_back, past_out[1])
    # What's out leaves the same text as the edit past it; what's kept back likewise.
    longest = max(length_after(past_out[1]), length_after(past_both[1]))
    if hand.revision == LAST_REVISION or longest > LONGEST_TEXT:
        return [TOO_LONG]
    answered = counted(bytes_of_edit(past_both[1]), most)
    if answered[0] >= 0:
        hand.follow(past_out[0], past_both[0], past_both[1])
    return answered


def remote(objects, number, most, e):
    if bad_edit_length(e) or most < 0:
        return [ARGUMENTS]
    edit = edit_from_bytes(e)
    if edit is None:
        return [NO_EDIT]
    hand = objects[number]
    if isinstance(hand, Host) or length_before(edit) != hand.length_without_own():
        return [DOES_NOT_FIT]
    return follow_remote(hand, most, edit)


def confirmed(objects, number, most):
    if most < 0:
        return [ARGUMENTS]
    hand = objects[number]
    if isinstance(hand, Host) or hand.out is None:
        return [DOES_NOT_FIT]
    if hand.revision == LAST_REVISION:
        return [TOO_LONG]
    answered = [0]
    if hand.kept_back is not None:
        answered = counted(bytes_of_edit(hand.kept_back), most)
    if answered[0] >= 0:
        hand.confirm()
    return answered


def receive(objects, number, revision, most, e):
    if bad_edit_length(e) or revision < 0 or most < 0:
        return [ARGUMENTS]
    edit = edit_from_bytes(e)
    if edit is None:
        return [NO_EDIT]
    host = objects[number]
    if isinstance(host, Hand) or revision > len(host.edits) or length_before(edit) != host.length_as_of(revision):
        return [DOES_NOT_FIT]
    if len(host.edits) == MOST_EDITS:
        return [TOO_LONG]
    edit = host.turned_since(edit, revision)
    if edit is None:
        return [TOO_LONG]
    answered = counted(bytes_of_edit(edit), most)
    if answered[0] >= 0:
        host.put_in_order(edit)
    return answered


def text_of(objects, number, most):
    if most < 0:
        return [ARGUMENTS]
    return counted(objects[number].text, most)


def revision_of(objects, number):
    asked = objects[number]
    if isinstance(asked, Host):
        return [len(asked.edits)]
    return [asked.revision]


def state_of(objects, number):
    asked = objects[number]
    if isinstance(asked, Host):
        return [THE_HOST]
    if asked.out is None:
        return [NOTHING_OUT]
    if asked.kept_back is None:
        return [ONE_OUT]
    return [ONE_KEPT_BACK]
