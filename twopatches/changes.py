"""Changes: patches from one document to another, and what rows can lead to."""

from twopatches.documents import after_row, check, check_row, copied
from twopatches.effects import Effect, effect, outcome
from twopatches.errors import NoChange


class Clash:
    """Two rows have no result in common: at this path their effects ask for different things."""

    def __init__(self, path):
        self.path = tuple(path)

    def __eq__(self, other):
        return isinstance(other, Clash) and self.path == other.path


def change(before, after):
    """Return the smallest patch that turns one document into the other."""
    check(before)
    check(after)
    return changed(before, after)


def undoing(document, row):
    """Return the smallest patch that leads back to a document from what a row makes of it."""
    check(document)
    check_row(row)
    return changed(after_row(document, row), document)


def is_result(row, document):
    """Return whether a row leads some document to this one."""
    check_row(row)
    check(document)
    return after_row(document, row) == document


def lost(row):
    """Return a pair of different objects that a row leads to the same result, or None if it does nothing to any."""
    one = effect(row)
    if one.kind == "keep" or one == Effect("merge", None, ()):
        return None
    # Whatever happens to a member does the same to an integer there as to nothing.
    key = one.members[0][0] if one.members else ""
    return {}, {key: 0}


def shared(row, other):
    """Return a document that is a result of two rows, or the Clash of what their effects ask for."""
    one, two = effect(row), effect(other)
    path = clash_path(one, two)
    if path is not None:
        return Clash(path)
    return outcome(one + two, {})


def changed(before, after, path=()):
    """Return the change of two documents, which stand at a path, are not checked, and may be larger."""
    if not isinstance(after, dict):
        return copied(after)
    found = before if isinstance(before, dict) else {}
    patch = {key: None for key in found if key not in after}
    for key in sorted(after):
        if key not in found or found[key] != after[key]:
            if after[key] is None:
                raise NoChange((*path, key))
            patch[key] = changed(found.get(key), after[key], (*path, key))
    return patch


def clash_path(one, other):
    """Return the path of the first place at which two effects ask for different things, or None."""
    if "keep" in (one.kind, other.kind):
        return None
    if not (asks_object(one) and asks_object(other)):
        return None if one == other else ()
    for key in sorted(dict(one.members + other.members)):
        path = clash_path(asked(one, key), asked(other, key))
        if path is not None:
            return (key, *path)
    return None


def asks_object(one):
    """Return whether an effect asks for an object."""
    return one.kind in ("merge", "build")


def asked(one, key):
    """Return the effect that tells what a merge or a build asks for at a key."""
    members = dict(one.members)
    if key in members:
        return members[key]
    return Effect("drop" if one.kind == "build" else "keep", None, ())
