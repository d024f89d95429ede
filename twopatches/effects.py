"""Effects: what rows of patches do to every document."""

from twopatches.documents import check, check_row, copied


class Effect:
    """What a row does to every document: a tree of the kinds keep, drop, set, merge and build."""

    def __init__(self, kind, atom, members):
        self.kind = kind
        self.atom = tuple(atom) if isinstance(atom, list) else atom
        pairs = [(key, member) for key, member in members]
        self.members = tuple(sorted(pairs, key=lambda pair: pair[0]))

    def __eq__(self, other):
        return (isinstance(other, Effect) and self.kind == other.kind
                and self.atom == other.atom and self.members == other.members)

    def __add__(self, other):
        return following(self, other)

    def __call__(self, document):
        check(document)
        return outcome(self, document)


def effect(row):
    """Return the effect of a row."""
    check_row(row)
    return row_effect(row)


def row_effect(row):
    """Return what effect returns, without checking the row."""
    total = Effect("keep", None, ())
    for patch in row:
        total = total + patch_effect(patch)
    return total


def patch_effect(patch):
    """Return the effect of a single patch, which is not checked."""
    if not isinstance(patch, dict):
        return Effect("set", patch, ())
    return Effect("merge", None, [(key, member_effect(patch[key])) for key in patch])


def member_effect(patch):
    """Return what a member of a patch does to the document's member of its key."""
    if patch is None:
        return Effect("drop", None, ())
    return patch_effect(patch)


def following(one, other):
    """Return the effect of one and then the other."""
    if other.kind == "keep":
        return one
    if one.kind == "keep" or other.kind != "merge":
        return other
    if one.kind == "merge":
        return merged(one, other)
    return built(one, other)


def merged(one, other):
    """Return the effect of two merges, one after the other."""
    by_key = dict(one.members)
    for key, member in other.members:
        by_key[key] = following(by_key[key], member) if key in by_key else member
    return Effect("merge", None, list(by_key.items()))


def built(one, other):
    """Return the effect of a merge after a drop, a set or a build."""
    # The members of the one, none for a drop and a set, are all that the merge can find there.
    by_key = dict(one.members)
    for key, member in other.members:
        before = by_key.pop(key, Effect("drop", None, ()))
        after = following(before, member)
        if after.kind != "drop":
            by_key[key] = after
    return Effect("build", None, list(by_key.items()))


def outcome(one, document):
    """Return the document after an effect other than a drop, without checking the document."""
    if one.kind == "keep":
        return copied(document)
    if one.kind == "set":
        return list(one.atom) if isinstance(one.atom, tuple) else one.atom
    target = document if one.kind == "merge" and isinstance(document, dict) else {}
    by_key = dict(one.members)
    after = {key: copied(target[key]) for key in target if key not in by_key}
    for key, member in one.members:
        if member.kind != "drop":
            after[key] = outcome(member, target.get(key))
    return after
