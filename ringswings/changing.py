"""Rings that are made from a ring by a change, and the effect of a step on the swings."""

from ringswings.bounds import MAX_LENGTH
from ringswings.errors import LastPlace, OutOfRange, TooLong
from ringswings.kinds import is_height
from ringswings.swings import swings_of


def set_height(ring, place, height):
    """Return the ring with another height at the place."""
    return ring[:place] + (height,) + ring[place + 1:]


def insert_height(ring, place, height):
    """Return the ring with a further height before the place, or at the end."""
    if len(ring) >= MAX_LENGTH:
        raise TooLong(MAX_LENGTH)
    return ring[:place] + (height,) + ring[place:]


def remove_place(ring, place):
    """Return the ring without the place."""
    if len(ring) == 1:
        raise LastPlace()
    return ring[:place] + ring[place + 1:]


def turned(ring, place):
    """Return the ring that begins at the place and goes round."""
    return ring[place:] + ring[:place]


def backward(ring):
    """Return the ring in the opposite order."""
    return ring[::-1]


def reflected(ring, total):
    """Return the ring with total - h in the place of each height h."""
    return ring_of_heights([total - height for height in ring])


def scaled(ring, factor, offset):
    """Return the ring with factor * h + offset in the place of each height h."""
    return ring_of_heights([factor * height + offset for height in ring])


def ring_of_heights(numbers):
    """Return the ring of the numbers, or raise OutOfRange if one of them is not a height."""
    if not all([is_height(number) for number in numbers]):
        raise OutOfRange()
    return tuple(numbers)


def repeated(ring, times):
    """Return the ring that goes so many times through the ring."""
    if len(ring) * times > MAX_LENGTH:
        raise TooLong(MAX_LENGTH)
    return ring * times


def step_effect(ring, place, step):
    """Return how the swings of the ring change if step, 1 or -1, is added to the height of the place."""
    height = ring[place] + step
    if not is_height(height):
        raise OutOfRange()
    before = swings_of(ring)
    after = swings_of(set_height(ring, place, height))
    # One step changes at most one swing, so there is at most one on either side.
    old = swings_without(before, after)
    new = swings_without(after, before)
    if old and new:
        return ("moved", old[0], new[0])
    if old:
        return ("gone", old[0])
    if new:
        return ("new", new[0])
    return ("none",)


def swings_without(swings, others):
    """Return the list of the swings that are left if each of the others is taken away once."""
    left = list(swings)
    for swing in others:
        if swing in left:
            left.remove(swing)
    return left
