"""Rows of steps: how one is put together, and how one is gone through in parts."""

from onetext.edits import KEEP, NO_STEP, PUT_IN, TAKE_OUT


class Row:
    """Puts steps together into the form, as they come.

    Between two keeps the form has one putting in, then one taking out. So what
    comes there is gathered in two heaps, in whatever order it comes.
    """

    def __init__(self):
        self.closed = []
        self.kept = 0
        self.put = []
        self.taken = 0

    def keep(self, count):
        if self.taken > 0 or len(self.put) > 0:
            self.close()
        self.kept += count

    def put_in(self, data):
        self.put.extend(data)

    def take_out(self, count):
        self.taken += count

    def close(self):
        """Make steps of what was gathered."""
        if self.kept > 0:
            self.closed.append((KEEP, self.kept, []))
        if len(self.put) > 0:
            self.closed.append((PUT_IN, len(self.put), self.put))
        if self.taken > 0:
            self.closed.append((TAKE_OUT, self.taken, []))
        self.kept = 0
        self.put = []
        self.taken = 0

    def finished(self):
        """The edit; nothing may come behind it."""
        self.close()
        return self.closed


class Cursor:
    """Goes through an edit, by parts of its steps where need be."""

    def __init__(self, edit):
        self.edit = edit
        self.place = 0
        self.kind = NO_STEP
        self.left = 0
        self.enter_step()

    def enter_step(self):
        if self.place < len(self.edit):
            self.kind = self.edit[self.place][0]
            self.left = self.edit[self.place][1]
        else:
            self.kind = NO_STEP

    def go_on(self, count):
        """Go so many bytes on within the step; the bytes that it puts in there."""
        step = self.edit[self.place]
        start = step[1] - self.left
        self.left -= count
        if self.left == 0:
            self.place += 1
            self.enter_step()
        return step[2][start:start + count]
