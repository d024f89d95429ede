"""Orders: what a few patches do in one order and in another."""

from twopatches.documents import check, check_row
from twopatches.effects import outcome, patch_effect, row_effect
from twopatches.errors import BadCount

MOST_PATCHES = 6


def commute(one, other):
    """Return whether the order of two patches does not matter for any document."""
    check(one)
    check(other)
    return row_effect([one, other]) == row_effect([other, one])


def outcomes(patches):
    """Return a pair (order, effect) with the smallest order for each effect that the orders of patches have."""
    check_count(patches)
    check_row(patches)
    singles = [patch_effect(patch) for patch in patches]
    orders = no_order()
    for _ in patches:
        orders = longer(orders, singles)
    found = {}
    for order, one in orders:
        found.setdefault(signature(one), (order, one))
    return list(found.values())


def route(patches, before, after):
    """Return the smallest of the shortest orders of patches from one document to another, or None."""
    check_count(patches)
    check_row(patches)
    check(before)
    check(after)
    singles = [patch_effect(patch) for patch in patches]
    orders = no_order()
    while orders:
        for order, one in orders:
            if outcome(one, before) == after:
                return order
        orders = longer(orders, singles)
    return None


def check_count(patches):
    """Raise BadCount if there are too many patches for a look at all their orders."""
    if len(patches) > MOST_PATCHES:
        raise BadCount("patches", len(patches))


def no_order():
    """Return the only order of no patches, with its effect, in a list."""
    return [((), row_effect([]))]


def longer(orders, singles):
    """Return all orders that have one place more, ascending if the orders are, each with its effect."""
    return [((*order, place), one + single) for order, one in orders
            for place, single in enumerate(singles) if place not in order]


def signature(one):
    """Return a flat tuple that tells an effect from all different ones."""
    flat = [one.kind, one.atom, len(one.members)]
    for key, member in one.members:
        flat.append(key)
        flat.extend(signature(member))
    return tuple(flat)
