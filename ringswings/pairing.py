"""Pairings of the swings of two rings, and the distance between rings that they show."""

from ringswings.kinds import is_number_pair
from ringswings.swings import swings_of


def find_pairing(first, second, d):
    """Return a pairing of two rings for d, or None if there is none."""
    return pair_swings(swings_of(first), swings_of(second), d)


def pair_swings(ones, others, d):
    """Return a pairing for d of the swings of two rings, or None if there is none."""
    # Each dict tells for a swing of one side which swing of the other side holds it as its partner.
    held = {}
    if not give_partners(wide_indexes(ones, d), near_indexes(ones, others, d), held):
        return None
    # From here on the swings of the first ring keep having a partner: they only pass from one to another.
    pairs = {one: other for other, one in held.items()}
    if not give_partners(wide_indexes(others, d), near_indexes(others, ones, d), pairs):
        return None
    return tuple(sorted(pairs.items()))


def wide_indexes(swings, d):
    """Return the indexes of the swings that need a partner."""
    return [at for at, swing in enumerate(swings) if swing[1] - swing[0] > 2 * d]


def near_indexes(swings, others, d):
    """Return for each of the swings the list of the indexes of the others that may be its partners."""
    return [[at for at, other in enumerate(others) if are_near(swing, other, d)] for swing in swings]


def are_near(swing, other, d):
    """Return whether two swings may be partners."""
    return abs(swing[0] - other[0]) <= d and abs(swing[1] - other[1]) <= d


def give_partners(wide, near, held):
    """Let each wide swing of one side hold a partner, and return whether that is possible."""
    for at in wide:
        if at not in list(held.values()) and not take_partner(at, wide, near, held, []):
            return False
    return True


def take_partner(at, wide, near, held, tried):
    """Let one more swing hold a partner that was not tried, and return whether that is possible."""
    for other in near[at]:
        if other not in tried:
            tried.append(other)
            # A wide swing gives its partner away only if it finds another one. A narrow swing needs none.
            if other not in held or held[other] not in wide or take_partner(held[other], wide, near, held, tried):
                held[other] = at
                return True
    return False


def pairing_holds(first, second, d, value):
    """Return whether any value is a pairing of two rings for d."""
    if not isinstance(value, tuple) or not all([is_number_pair(item) for item in value]):
        return False
    ones = swings_of(first)
    others = swings_of(second)
    lefts = [pair[0] for pair in value]
    rights = [pair[1] for pair in value]
    # As no index occurs twice, the pairs are ascending exactly if their first indexes are.
    if lefts != sorted(set(lefts)) or len(rights) != len(set(rights)):
        return False
    if not are_indexes(lefts, ones) or not are_indexes(rights, others):
        return False
    if not all([are_near(ones[left], others[right], d) for left, right in value]):
        return False
    return are_all_in(wide_indexes(ones, d), lefts) and are_all_in(wide_indexes(others, d), rights)


def are_indexes(numbers, swings):
    """Return whether all numbers are indexes of the swings."""
    return all([0 <= number < len(swings) for number in numbers])


def are_all_in(needed, numbers):
    """Return whether all that is needed is among the numbers."""
    return all([number in numbers for number in needed])


def swing_distance(first, second):
    """Return the least d for which two rings have a pairing."""
    ones = swings_of(first)
    others = swings_of(second)
    least = 0
    # From half of the greatest range on, no swing needs a partner. A pairing for some d is one for every greater d.
    most = max([(high - low + 1) // 2 for low, high in ones + others], default=0)
    while least < most:
        middle = (least + most) // 2
        if pair_swings(ones, others, middle) is None:
            least = middle + 1
        else:
            most = middle
    return least
