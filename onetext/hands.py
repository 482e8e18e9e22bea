"""A hand and the host: what each has, and how it changes.

Edits that are handed to them fit, as the caller has made sure.
"""

from onetext.changes import applied, composed, turned
from onetext.edits import LONGEST_TEXT, length_after, length_before


def turned_past_own(own, edit):
    """The pair of a hand's own edit, if there is one, and another's, turned past one another."""
    if own is None:
        return (None, edit)
    return turned(own, edit)


class Hand:
    """A copy of its own; out and kept_back are edits, or None where there is none."""

    def __init__(self, text):
        self.text = text
        self.revision = 0
        self.out = None
        self.kept_back = None

    def change(self, edit):
        """Take an edit of this hand's own; whether it's out now."""
        self.text = applied(edit, self.text)
        if self.out is None:
            self.out = edit
            return True
        if self.kept_back is None:
            self.kept_back = edit
        else:
            self.kept_back = composed(self.kept_back, edit)
        return False

    def length_without_own(self):
        """How many bytes the text would have without what's out and kept back."""
        if self.out is None:
            return len(self.text)
        return length_before(self.out)

    def follow(self, out, kept_back, edit):
        """Take the edit of another; out and kept_back are this hand's, turned past it."""
        self.text = applied(edit, self.text)
        self.out = out
        self.kept_back = kept_back
        self.revision += 1

    def confirm(self):
        """Know that what's out was put in order."""
        self.out = self.kept_back
        self.kept_back = None
        self.revision += 1


class Host:
    """The text that all come to, and all edits so far in order."""

    def __init__(self, text):
        self.text = text
        self.edits = []

    def length_as_of(self, revision):
        """How many bytes the text had when there were so many edits."""
        if revision == len(self.edits):
            return len(self.text)
        return length_before(self.edits[revision])

    def turned_since(self, edit, revision):
        """The edit turned past each since the revision; None if it would leave too long a text past any."""
        for earlier in self.edits[revision:]:
            edit = turned(edit, earlier)[0]
            if length_after(edit) > LONGEST_TEXT:
                return None
        return edit

    def put_in_order(self, edit):
        self.text = applied(edit, self.text)
        self.edits.append(edit)
