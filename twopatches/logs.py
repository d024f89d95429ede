"""Logs: a first document and a row of patches that grows."""

from twopatches.compacting import compact
from twopatches.documents import after_row, check, check_row, copied
from twopatches.errors import NoBack, NoTime


class Log:
    """A first document and a row of patches, with the changes that led to them."""

    def __init__(self):
        self.start = {}
        self.patches = []
        # The first document and the row as they were before each change. None of these is ever changed in place.
        self.past = []

    def begin(self, document):
        """Set the first document."""
        check(document)
        self.replace_all(copied(document), self.patches)

    def add(self, patch):
        """Append a patch to the row."""
        # The patches before are right and few enough, so the error is that of this one.
        check_row(self.patches + [patch])
        self.replace_all(self.start, self.patches + [copied(patch)])

    def row(self):
        """Return the patches."""
        return [copied(patch) for patch in self.patches]

    def first(self):
        """Return the first document."""
        return copied(self.start)

    def at(self, time):
        """Return the document after so many patches."""
        self.check_time(time, 0)
        return after_row(self.start, self.patches[:time])

    def now(self):
        """Return the document after all patches."""
        return after_row(self.start, self.patches)

    def squeeze(self, begin, end):
        """Replace the patches from one place to before another one by as few as possible."""
        self.check_time(begin, 0)
        self.check_time(end, begin)
        fewer = compact(self.patches[begin:end])
        self.replace_all(self.start, self.patches[:begin] + fewer + self.patches[end:])

    def back(self):
        """Undo the last change."""
        if not self.past:
            raise NoBack()
        self.start, self.patches = self.past.pop()

    def many(self):
        """Return the number of changes that can be undone."""
        return len(self.past)

    def check_time(self, time, least):
        """Raise NoTime unless a time is from the least one to the number of patches."""
        if not least <= time <= len(self.patches):
            raise NoTime(time)

    def replace_all(self, start, patches):
        """Put a first document and a row, which are its own, in the place of those it has, if they differ."""
        if start != self.start or patches != self.patches:
            self.past.append((self.start, self.patches))
            self.start, self.patches = start, patches
