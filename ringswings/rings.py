"""Rings of heights, their turns and their movement."""

from ringswings.bounds import MAX_LENGTH
from ringswings.kinds import is_height


def is_ring(value):
    """Return whether any value is a ring."""
    return ring_error(value) is None


def ring_error(value):
    """Return the first error of any value as a ring, or None if it is a ring."""
    if not isinstance(value, tuple):
        return (None, "tuple")
    if not 1 <= len(value) <= MAX_LENGTH:
        return (None, "length")
    for index, item in enumerate(value):
        if not is_height(item):
            return (index, "height")
    return None


def turning_places(ring):
    """Return the ascending tuple of the peaks and valleys."""
    return tuple([place for place in range(len(ring)) if is_turn(ring, place)])


def is_turn(ring, place):
    """Return whether the place is a peak or a valley."""
    height = ring[place]
    before = ring[place - 1]
    # Only the first place of a row of equal heights may be a turn. From here on some height is different.
    if before == height:
        return False
    return (before < height) == (next_other_height(ring, place) < height)


def next_other_height(ring, place):
    """Return the first height after the place that is different from its own, or its own if there is none."""
    for height in heights_after(ring, place):
        if height != ring[place]:
            return height
    return ring[place]


def heights_after(ring, place):
    """Return the heights that follow, going round from the place, without that of the place itself."""
    return ring[place + 1:] + ring[:place]


def movement_of(ring):
    """Return the sum of the absolute differences between each place and the next one."""
    return sum([abs(height - ring[place - 1]) for place, height in enumerate(ring)])
