"""Passages of a ring, its swings, and removals that show the swings."""

from ringswings.kinds import is_number_pair
from ringswings.rings import heights_after, turning_places


def passage_places(ring, low, high):
    """Return the ascending tuple of the places at which a passage from low to high begins."""
    return tuple([place for place in range(len(ring)) if begins_passage(ring, place, low, high)])


def begins_passage(ring, place, low, high):
    """Return whether a passage from low to high begins at the place."""
    if ring[place] > low:
        return False
    for height in heights_after(ring, place):
        if height >= high:
            return True
        if height <= low:
            return False
    # Going round has ended with the place itself, which is low.
    return False


def count_passages(ring, low, high):
    """Return the number of passages from low to high."""
    return len(passage_places(ring, low, high))


def swings_of(ring):
    """Return the sorted tuple of the swings of the ring."""
    return tuple(sorted([(ring[valley], ring[peak]) for valley, peak in find_removal(ring)]))


def find_removal(ring):
    """Return a removal of the ring: each pair is the first one with the least difference of those left."""
    left = turning_places(ring)
    pairs = []
    while left:
        # Neighbours with the least difference can always be removed: the runs on both sides reach as far.
        pair = flattest_pair(ring, left)
        pairs.append(pair)
        left = without_pair(left, pair)
    return tuple(pairs)


def flattest_pair(ring, left):
    """Return the first pair (valley, peak) of neighbours among the turns left with the least difference."""
    ranges = [abs(ring[turn] - ring[left[index - 1]]) for index, turn in enumerate(left)]
    at = ranges.index(min(ranges))
    return valley_first(ring, left[at - 1], left[at])


def valley_first(ring, turn, neighbour):
    """Return two neighbours among turns as (valley, peak)."""
    # Of two neighbours the lower one is the valley, also after other pairs were removed between them.
    return (turn, neighbour) if ring[turn] < ring[neighbour] else (neighbour, turn)


def without_pair(left, pair):
    """Return the turns that are left after the pair is removed."""
    return tuple([turn for turn in left if turn not in pair])


def removal_holds(ring, value):
    """Return whether any value is a removal of the ring."""
    if not isinstance(value, tuple):
        return False
    left = turning_places(ring)
    for pair in value:
        if not is_number_pair(pair) or not can_remove(ring, left, pair):
            return False
        left = without_pair(left, pair)
    return len(left) == 0


def can_remove(ring, left, pair):
    """Return whether the pair of numbers may be the next one of a removal, or the last one if two are left."""
    valley, peak = pair
    if valley not in left or peak not in left or ring[valley] >= ring[peak]:
        return False
    count = len(left)
    at_valley = left.index(valley)
    at_peak = left.index(peak)
    if (at_peak - at_valley) % count not in (1, count - 1):
        return False
    # The other neighbour of each lies opposite to its partner. If only two are left, that is the
    # partner itself, and both comparisons hold.
    beside_valley = left[(2 * at_valley - at_peak) % count]
    beside_peak = left[(2 * at_peak - at_valley) % count]
    return ring[peak] <= ring[beside_valley] and ring[beside_peak] <= ring[valley]


def are_alike(first, second):
    """Return whether two rings have the same number of passages for all thresholds."""
    return swings_of(first) == swings_of(second)


def find_difference(first, second):
    """Return the smallest thresholds for which two rings have different numbers of passages, or None."""
    ones = swings_of(first)
    others = swings_of(second)
    swings = ones + others
    for low in sorted([swing[0] for swing in swings]):
        for high in highs_to_try(swings, low):
            if count_containing(ones, low, high) != count_containing(others, low, high):
                return (low, high)
    return None


def highs_to_try(swings, low):
    """Return, in order, the high thresholds above low at which a number of passages can change."""
    return sorted([low + 1] + [swing[1] + 1 for swing in swings if swing[1] > low])


def count_containing(swings, low, high):
    """Return the number of swings that reach from low or less to high or more."""
    return len([swing for swing in swings if swing[0] <= low and swing[1] >= high])
