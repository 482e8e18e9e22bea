"""A hand and the host: what each has, and how it changes."""

from onetext.changes import applied, composed


class Hand:
    """A copy of its own; out and kept_back are edits, or None where there is none."""

    def __init__(self, text):
        self.text = text
        self.revision = 0
        self.out = None
        self.kept_back = None

    def change(self, edit):
        """Take an edit of this hand's own that fits its text; whether it's out now."""
        self.text = applied(edit, self.text)
        if self.out is None:
            self.out = edit
            return True
        if self.kept_back is None:
            self.kept_back = edit
        else:
            self.kept_back = composed(self.kept_back, edit)
        return False


class Host:
    """The text that all come to, and all edits so far in order."""

    def __init__(self, text):
        self.text = text
        self.edits = []
