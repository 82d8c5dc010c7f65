"""The least movement and the fewest turns within a tolerance, and zigzags that show that no ring has less."""

from ringswings.kinds import is_number
from ringswings.rings import is_ring, movement_of, turning_places
from ringswings.swings import find_removal, swings_of


def lazy_ring(ring, tolerance):
    """Return the ring within the tolerance that changes its height only where it must."""
    # The first time round only finds the height with which the path closes on itself.
    height = lazy_path(ring[0], ring[1:] + ring[:1], tolerance)[-1]
    return (height,) + lazy_path(height, ring[1:], tolerance)


def lazy_path(height, targets, tolerance):
    """Return for each target the number within the tolerance that is nearest to the number before it."""
    path = []
    for target in targets:
        height = max(target - tolerance, min(target + tolerance, height))
        path.append(height)
    return tuple(path)


def swing_ranges(ring):
    """Return the list of the ranges of the swings, the greatest first."""
    return sorted([high - low for low, high in swings_of(ring)], reverse=True)


def least_movement(ring, tolerance):
    """Return the least movement of a ring within the tolerance."""
    return 2 * sum([max(0, reach - 2 * tolerance) for reach in swing_ranges(ring)])


def least_turns(ring, tolerance):
    """Return the least number of turns of a ring within the tolerance."""
    return 2 * len([reach for reach in swing_ranges(ring) if reach > 2 * tolerance])


def find_zigzag(ring, tolerance):
    """Return a zigzag with least_turns places whose bound is least_movement."""
    # The removal takes the pairs in ascending order of their ranges. So the pairs that are kept here are what
    # is left at one of its steps, and all neighbours differ by at least the range of the next pair.
    kept = [pair for pair in find_removal(ring) if ring[pair[1]] - ring[pair[0]] > 2 * tolerance]
    return tuple(sorted([place for pair in kept for place in pair]))


def zigzag_bound(ring, tolerance, value):
    """Return the bound of any value as a zigzag of the ring for the tolerance, or None if it is none."""
    if not isinstance(value, tuple) or len(value) % 2 != 0 or not are_ascending_places(ring, value):
        return None
    steps = [ring[place] - ring[value[at - 1]] for at, place in enumerate(value)]
    if not do_alternate(steps) or not all([abs(step) > 2 * tolerance for step in steps]):
        return None
    return sum([abs(step) - 2 * tolerance for step in steps])


def are_ascending_places(ring, items):
    """Return whether the items are places of the ring in ascending order."""
    if not all([is_number(item) and 0 <= item < len(ring) for item in items]):
        return False
    return list(items) == sorted(set(items))


def do_alternate(steps):
    """Return whether rises and falls alternate, the last step and the first one included."""
    return all([(step > 0) != (steps[at - 1] > 0) for at, step in enumerate(steps)])


def smoothing_holds(ring, tolerance, value):
    """Return whether any value is a ring within the tolerance and a zigzag that shows that no ring has less."""
    if not isinstance(value, tuple) or len(value) != 2:
        return False
    other, places = value
    if not is_ring(other) or not is_within(ring, tolerance, other):
        return False
    bound = zigzag_bound(ring, tolerance, places)
    return bound is not None and bound == movement_of(other) and len(places) == len(turning_places(other))


def is_within(ring, tolerance, other):
    """Return whether the other ring is within the tolerance of the ring."""
    if len(other) != len(ring):
        return False
    return all([abs(height - target) <= tolerance for height, target in zip(other, ring)])


def tolerance_for_turns(ring, turns):
    """Return the least tolerance for which some ring within it has at most so many turns."""
    ranges = swing_ranges(ring)
    kept = turns // 2
    if kept >= len(ranges):
        return 0
    # The greatest swing that is not kept vanishes at half of its range, rounded up.
    return (ranges[kept] + 1) // 2


def tolerance_for_movement(ring, movement):
    """Return the least tolerance for which some ring within it has at most so much movement."""
    tolerance = 0
    total = 0
    # The least movement is the greatest of the numbers 2 * total - 4 * count * tolerance, where total is the
    # sum of the count greatest ranges. Each of them asks for a tolerance of its own, rounded up.
    for count, reach in enumerate(swing_ranges(ring), start=1):
        total += reach
        tolerance = max(tolerance, -((movement - 2 * total) // (4 * count)))
    return tolerance
