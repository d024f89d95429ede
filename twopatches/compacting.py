"""Compacting: fewer patches with the same effect, and which patches of a row count."""

from twopatches.documents import check_row, copied
from twopatches.effects import effect, outcome
from twopatches.needs import Past, is_needed, row_future


def compact(row):
    """Return as few patches as possible with the effect of a row."""
    one = effect(row)
    if one.kind == "keep":
        return []
    if has_build(one):
        return [clearing(one), as_patch(one)]
    return [as_patch(one)]


def latest(row):
    """Return the patches of a row that do not come again later in it."""
    check_row(row)
    return [copied(patch) for place, patch in enumerate(row) if patch not in row[place + 1:]]


def needless(row):
    """Return the places of all patches without which, each left out alone, a row has the same effect."""
    check_row(row)
    past, future = Past(False), row_future(row)
    places = []
    for place, patch in enumerate(row):
        if not is_needed(patch, place, past, future):
            places.append(place)
        past.take(patch)
    return places


def core(row):
    """Return the patches that are left if each that is needless then is left out, from the first to the last."""
    check_row(row)
    past, future = Past(False), row_future(row)
    left = []
    for place, patch in enumerate(row):
        if is_needed(patch, place, past, future):
            left.append(copied(patch))
            past.take(patch)
    return left


def writers(row):
    """Return the paths that a row sets or deletes, each with the place of the last patch that has it."""
    one = effect(row)
    return [(path, last_place(row, path)) for path in written_paths(one)]


def has_build(one):
    """Return whether an effect is a build or has one in it."""
    return one.kind == "build" or any([has_build(member) for key, member in one.members])


def clearing(one):
    """Return the patch that deletes what is there at each outermost build of an effect that has one."""
    if one.kind == "build":
        return None
    return {key: clearing(member) for key, member in one.members if has_build(member)}


def as_patch(one):
    """Return an effect other than a keep as a patch, in which a build is written as an object."""
    if one.kind == "drop":
        return None
    if one.kind == "merge":
        return {key: as_patch(member) for key, member in one.members}
    # A set and a build lead every document to one result.
    return outcome(one, None)


def written_paths(one):
    """Return the paths of all sets and drops in an effect, ascending."""
    if one.kind in ("set", "drop"):
        return [()]
    # None of these paths is the beginning of another one, so ascending keys give ascending paths.
    return [(key, *path) for key, member in one.members for path in written_paths(member)]


def last_place(row, path):
    """Return the place of the last patch of a row that has a path, which some patch has."""
    return max([place for place, patch in enumerate(row) if has_path(patch, path)])


def has_path(patch, path):
    """Return whether the keys of a path lead to a part of a patch."""
    part = patch
    for key in path:
        if not isinstance(part, dict) or key not in part:
            return False
        part = part[key]
    return True
