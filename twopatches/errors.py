"""The errors of the package."""


class PatchError(ValueError):
    """The base class of all errors of the package."""

    def told(self):
        """Return the answer of a desk to this error."""
        return "refused patcherror"


class NoDocument(PatchError):
    """A value is no document; the path leads to its first part that is wrong."""

    def __init__(self, path):
        self.path = tuple(path)

    def told(self):
        """Return the answer of a desk to this error."""
        return "refused nodocument"


class Large(PatchError):
    """A document has too much "depth" or too many "parts", or a "row" has too many parts."""

    def __init__(self, what):
        self.what = what

    def told(self):
        """Return the answer of a desk to this error."""
        return "refused large"


class BadCount(PatchError):
    """There are too many of something."""

    def __init__(self, what, count):
        self.what = what
        self.count = count

    def told(self):
        """Return the answer of a desk to this error."""
        return "refused badcount"


class NoChange(PatchError):
    """No patch can make the member None to which the path leads."""

    def __init__(self, path):
        self.path = tuple(path)

    def told(self):
        """Return the answer of a desk to this error."""
        return "refused nochange"


class NoTime(PatchError):
    """A log has no such time."""

    def __init__(self, time):
        self.time = time

    def told(self):
        """Return the answer of a desk to this error."""
        return "refused notime"


class NoBack(PatchError):
    """There is nothing to undo."""

    def told(self):
        """Return the answer of a desk to this error."""
        return "refused noback"


class BadText(PatchError):
    """A text is malformed from this place on."""

    def __init__(self, place):
        self.place = place

    def told(self):
        """Return the answer of a desk to this error."""
        return "refused badtext"
