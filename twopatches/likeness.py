"""Likeness: whether two rows do the same, and documents that tell them apart."""

from twopatches.effects import Effect, effect


def same(row, other):
    """Return whether two rows do the same to every document."""
    return effect(row) == effect(other)


def parting(row, other):
    """Return a document other than None to which two rows do different things, or None if there is none."""
    one, two = effect(row), effect(other)
    return None if one == two else parting_document(one, two)


def is_parting(row, other, document):
    """Return whether two rows lead a document to different results."""
    one, two = effect(row), effect(other)
    return one(document) != two(document)


def parting_document(one, other):
    """Return a document other than None that two different effects lead to different results."""
    kinds = sorted([one.kind, other.kind])
    if kinds == ["merge", "merge"]:
        return parting_member(one, other)
    if kinds == ["build", "merge"]:
        # Only the merge leaves a member alone whose key neither of them has.
        return {fresh_key(one, other): 0}
    # Any atom will do now, except one that is set where the other effect is a keep.
    return 1 if 0 in (one.atom, other.atom) else 0


def parting_member(one, other):
    """Return an object whose only member two different merges lead to different results."""
    keep = Effect("keep", None, ())
    members, others = dict(one.members), dict(other.members)
    keys = list(members) + list(others)
    first = min([key for key in keys if members.get(key, keep) != others.get(key, keep)])
    return {first: parting_document(members.get(first, keep), others.get(first, keep))}


def fresh_key(one, other):
    """Return a key that no member of two effects has."""
    taken = dict(one.members + other.members)
    names = [str(number) for number in range(len(taken) + 1)]
    return min([name for name in names if name not in taken])
