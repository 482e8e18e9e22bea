"""The numbers of the refusals, and what more than one call may be refused for."""

from onetext.edits import LONGEST_TEXT

ARGUMENTS = -2
NO_EDIT = -3
DOES_NOT_FIT = -4
TOO_LONG = -6
MORE_THAN_MOST = -7

LONGEST_EDIT_BYTES = 1048576


def bad_edit_length(numbers):
    return len(numbers) > LONGEST_EDIT_BYTES


def bad_text_length(text):
    return len(text) > LONGEST_TEXT


def counted(numbers, most):
    """How many numbers, and they; refused if they are more than most."""
    if len(numbers) > most:
        return [MORE_THAN_MOST]
    return [len(numbers)] + numbers
