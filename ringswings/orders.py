"""The rings that can be made of a distinct collection, counted and numbered."""

from ringswings.changing import turned
from ringswings.errors import NoIndex, NotDistinct
from ringswings.kinds import is_number
from ringswings.shapes import hull_of
from ringswings.swings import swings_of


def count_rings(collection):
    """Return the number of rings that can be made of a collection, or raise NotDistinct."""
    check_distinct(collection)
    count = 1
    for swing in insertion_order(collection):
        count *= count_choices(collection, swing)
    return count


def check_distinct(collection):
    """Raise NotDistinct with the smallest height that occurs twice, if there is one."""
    heights = sorted([height for swing in collection for height in swing])
    for before, height in zip(heights, heights[1:]):
        if before == height:
            raise NotDistinct(height)


def insertion_order(collection):
    """Return the swings of a distinct collection in the order of insertion, without the one that contains all."""
    # The swing that contains all others has the greatest range of all, so it comes first.
    return sorted(collection, key=lambda swing: (swing[0] - swing[1], swing))[1:]


def count_choices(collection, swing):
    """Return the number of runs in which a swing of a distinct collection can be inserted."""
    # Whatever was inserted before, each swing that contains this one offers one rising and one falling run.
    return 2 * len([other for other in collection if other[0] < swing[0] and other[1] > swing[1]])


def ring_at(collection, index):
    """Return the ring of a collection with the index, which may be any value, or raise NotDistinct or NoIndex."""
    count = count_rings(collection)
    if not is_number(index) or not 0 <= index < count:
        raise NoIndex(index)
    if not collection:
        return (0,)
    ring = hull_of(collection)
    for swing, choice in zip(insertion_order(collection), choices_at(collection, index)):
        ring = with_swing(ring, fitting_runs(ring, swing)[choice], swing)
    return ring


def choices_at(collection, index):
    """Return the choices that write the index, in the order of insertion."""
    choices = []
    # The choice of the last swing was added last, so it is taken off first.
    for swing in insertion_order(collection)[::-1]:
        index, choice = divmod(index, count_choices(collection, swing))
        choices.append(choice)
    return choices[::-1]


def fitting_runs(ring, swing):
    """Return, in order, the runs of the ring in which the swing can be inserted."""
    low, high = swing
    ends = list(zip(ring, turned(ring, 1)))
    return [run for run, pair in enumerate(ends) if min(pair) < low and max(pair) > high]


def with_swing(ring, run, swing):
    """Return the ring with the swing inserted in a run in which it can be inserted."""
    low, high = swing
    inner = (high, low) if ring[run] < low else (low, high)
    return ring[:run + 1] + inner + ring[run + 1:]


def ring_index(ring):
    """Return the index of a ring of different heights that are all turns, as if it began at its lowest place."""
    collection = swings_of(ring)
    left = turned(ring, ring.index(min(ring)))
    index = 0
    weight = 1
    # The swing that was inserted last lies between neighbours, so the insertions can be taken back one by one.
    for swing in insertion_order(collection)[::-1]:
        at = min(left.index(swing[0]), left.index(swing[1]))
        left = left[:at] + left[at + 2:]
        index += weight * fitting_runs(left, swing).index(at - 1)
        weight *= count_choices(collection, swing)
    return index
