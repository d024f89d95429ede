"""Needs: whether a row has another effect without one of its patches, told from the parts of that patch alone."""


class Past:
    """What patches do at one path: a tree that changes with each patch that it takes."""

    def __init__(self, fixed):
        # Whether it matters no more what was there before all patches.
        self.fixed = fixed
        # The pasts of the members, if an object is there.
        self.inner = None
        # Else, if what is there is fixed, the atom, or None if nothing is there.
        self.atom = None

    def take(self, patch):
        """Let one more patch follow."""
        if not isinstance(patch, dict):
            self.fixed, self.atom, self.inner = True, patch, None
            return
        if self.inner is None:
            self.inner = {}
        for key in patch:
            if key not in self.inner:
                self.inner[key] = Past(self.fixed)
            self.inner[key].take(patch[key])

    def member(self, key):
        """Return the past of a member, also of one that no patch has."""
        if self.inner is None or key not in self.inner:
            return Past(self.fixed)
        return self.inner[key]


class Future:
    """At which places of a row a path is in a patch for the last time: at all, and with an atom."""

    def __init__(self):
        self.last = -1
        self.last_atom = -1
        self.inner = {}

    def note(self, patch, place):
        """Take note of the patch at a place, which comes after all that were noted before."""
        self.last = place
        if not isinstance(patch, dict):
            self.last_atom = place
            return
        for key in patch:
            if key not in self.inner:
                self.inner[key] = Future()
            self.inner[key].note(patch[key], place)


def row_future(row):
    """Return the future of all places of a row."""
    future = Future()
    for place, patch in enumerate(row):
        future.note(patch, place)
    return future


def is_needed(patch, place, past, future):
    """Return whether the patch at a place makes a difference, after a past and before the later places."""
    if future.last_atom > place:
        return False
    if not isinstance(patch, dict):
        return is_atom_needed(patch, place, past, future)
    if past.inner is None and future.last == place:
        return True
    for key in patch:
        if is_needed(patch[key], place, past.member(key), future.inner[key]):
            return True
    return False


def is_atom_needed(atom, place, past, future):
    """Return whether the last atom makes a difference, after a past and before later objects."""
    if not past.fixed:
        return True
    if future.last > place:
        # The later objects begin with an empty one after the atom.
        return not is_hidden(place, past, future)
    return past.inner is not None or past.atom != atom


def is_hidden(place, past, future):
    """Return whether the places after this one lead to the same from a fixed past as from nothing."""
    if future.last_atom > place:
        return True
    if past.inner is None:
        return past.atom is None or future.last > place
    if future.last <= place:
        return False
    return all([is_hidden(place, past.inner[key], future.inner[key]) for key in past.inner])
