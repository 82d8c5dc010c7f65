"""Collections of swings, and the plain rings that have them."""

from ringswings.bounds import MAX_LENGTH
from ringswings.kinds import is_swing
from ringswings.swings import swings_of


def is_collection(value):
    """Return whether any value is a sorted tuple of swings that is empty or has one that contains all others."""
    if not isinstance(value, tuple) or len(value) > MAX_LENGTH // 2:
        return False
    # Only swings can be put in order, so other items are refused first.
    if not all([is_swing(item) for item in value]) or list(value) != sorted(value):
        return False
    return len(value) == 0 or hull_of(value) in value


def hull_of(swings):
    """Return the smallest swing that contains all of one or more swings; it need not be one of them."""
    return (min([swing[0] for swing in swings]), max([swing[1] for swing in swings]))


def make_ring(collection):
    """Return the plain ring of a collection."""
    if not collection:
        return (0,)
    hull = hull_of(collection)
    at = collection.index(hull)
    heights = [hull[0]]
    for low, high in collection[:at] + collection[at + 1:]:
        heights.extend([high, low])
    heights.append(hull[1])
    return tuple(heights)


def plain_ring(ring):
    """Return the plain ring of the swings of a ring."""
    return make_ring(swings_of(ring))
