"""What the document says, written as plainly as possible and without the package, to compare with."""

import functools
import itertools
import random

LIMIT = 10 ** 9

# Values of all kinds that the document calls "any value", none of them a ring, a removal or a collection.
OTHER_VALUES = (
    None,
    True,
    False,
    0,
    1,
    -1,
    10 ** 30 - 1,
    "",
    "tuple",
    "01",
    "a\nb",
    "x" * 2000,
    [],
    [0],
    [0, 5],
    [(0, 5)],
    [[0, 1]],
    {},
    {"0": 0},
    {"a": (0, 1), "b": [None, {"c": True}]},
    (None,),
    (True,),
    (False,),
    ("0",),
    ("01",),
    ([0],),
    ([0, 1],),
    ({},),
    ({"a": 1},),
    ((),),
    ((0,),),
    ((0, 1, 2),),
    ((None, None),),
    (((0, 1),),),
    ((False, True),),
    ((0, True),),
    ((False, 1),),
    (("0", "1"),),
    (([0], [1]),),
    (((0,), (1,)),),
    tuple([None] * 999),
    [None] * 999,
)


def nested_values():
    """A tuple, a list and a dict, nested twenty levels deep."""
    deep_tuple, deep_list, deep_dict = (), [], {}
    for _ in range(19):
        deep_tuple, deep_list, deep_dict = (deep_tuple,), [deep_list], {"a": deep_dict}
    return [deep_tuple, deep_list, deep_dict]


def all_rings(longest, heights):
    for length in range(1, longest + 1):
        yield from itertools.product(heights, repeat=length)


def mixed_rings(count):
    """The same rings each time: short and long, with few and many different heights."""
    source = random.Random(2026)
    for _ in range(count):
        length = source.choice((1, 2, 3, 6, 12, 23, 24))
        top = source.choice((1, 2, 5, 30, LIMIT))
        bottom = source.choice((0, -top))
        yield tuple([source.randint(bottom, top) for _ in range(length)])


def kind_of_place(ring, place):
    """'peak', 'valley' or None, by looking for the first different heights in both directions."""
    length = len(ring)
    height = ring[place]
    befores = [ring[(place - step) % length] for step in range(1, length)]
    afters = [ring[(place + step) % length] for step in range(1, length)]
    if not befores or befores[0] == height:
        return None
    before = [other for other in befores if other != height][0]
    after = [other for other in afters if other != height][0]
    if before < height and after < height:
        return "peak"
    if before > height and after > height:
        return "valley"
    return None


def turns(ring):
    return tuple([place for place in range(len(ring)) if kind_of_place(ring, place)])


def passages(ring, low, high):
    """The last of each row of low places that is followed by a high place, middle places left out."""
    marked = [place for place, height in enumerate(ring) if height <= low or height >= high]
    found = []
    for at, place in enumerate(marked):
        following = marked[(at + 1) % len(marked)]
        if ring[place] <= low and ring[following] >= high:
            found.append(place)
    return tuple(found)


def thresholds(rings):
    """Thresholds that are heights, lie beside and between them, and lie outside."""
    heights = {height for ring in rings for height in ring}
    numbers = {height + by for height in heights for by in (-1, 0, 1)} | {-10 ** 29, 10 ** 29}
    return list(itertools.combinations(sorted(numbers), 2))


@functools.lru_cache(maxsize=None)
def swings(ring):
    """The swings, from the numbers of passages: those that are counted at (low, high) but not farther out."""
    heights = sorted(set(ring))
    found = []
    for low, high in itertools.combinations(heights, 2):
        exactly = (len(passages(ring, low, high)) - len(passages(ring, low - 1, high))
                   - len(passages(ring, low, high + 1)) + len(passages(ring, low - 1, high + 1)))
        found.extend([(low, high)] * exactly)
    return tuple(sorted(found))


def is_between(height, one, other):
    return min(one, other) <= height <= max(one, other)


def next_pairs(ring, left):
    """The pairs (valley, peak) that may be removed next, by the words of point 8."""
    found = []
    for at in range(len(left)):
        q, r = left[at], left[(at + 1) % len(left)]
        p, s = left[at - 1], left[(at + 2) % len(left)]
        if len(left) == 2 or is_between(ring[r], ring[p], ring[q]) and is_between(ring[q], ring[r], ring[s]):
            found.append((q, r) if kind_of_place(ring, q) == "valley" else (r, q))
    return sorted(set(found))


def without(left, pair):
    return tuple([turn for turn in left if turn not in pair])


def removals(ring, left=None):
    """All removals of a ring."""
    if left is None:
        left = turns(ring)
    if not left:
        return [()]
    return [(pair,) + rest for pair in next_pairs(ring, left) for rest in removals(ring, without(left, pair))]


def is_removal(ring, pairs):
    """Whether a tuple of pairs of places is a removal."""
    left = turns(ring)
    for pair in pairs:
        if pair not in next_pairs(ring, left):
            return False
        left = without(left, pair)
    return left == ()


def mixed_removals(ring, count):
    """Some removals of a ring, the same ones each time, that take the pairs in various orders."""
    source = random.Random(2027)
    for _ in range(count):
        left, pairs = turns(ring), []
        while left:
            pairs.append(source.choice(next_pairs(ring, left)))
            left = without(left, pairs[-1])
        yield tuple(pairs)


def with_two_exchanged(pairs):
    """The tuples of pairs in which two neighbouring pairs have changed places, or have exchanged their peaks."""
    for at in range(len(pairs) - 1):
        one, other = pairs[at], pairs[at + 1]
        yield pairs[:at] + (other, one) + pairs[at + 2:]
        yield pairs[:at] + ((one[0], other[1]), (other[0], one[1])) + pairs[at + 2:]


def movement(ring):
    return sum(abs(ring[place] - ring[(place + 1) % len(ring)]) for place in range(len(ring)))


def rings_within(ring, tolerance):
    """All rings within the tolerance."""
    choices = [range(max(-LIMIT, height - tolerance), min(LIMIT, height + tolerance) + 1) for height in ring]
    return itertools.product(*choices)


def least_of_all(ring, tolerance):
    """The least movement and the least number of turns, by trying all rings within the tolerance."""
    found = list(rings_within(ring, tolerance))
    return min(map(movement, found)), min(len(turns(other)) for other in found)


def least_by_swings(ring, tolerance):
    """The least movement and the least number of turns, by what point 11 says of the swings."""
    more = [high - low - 2 * tolerance for low, high in swings(ring) if high - low > 2 * tolerance]
    return 2 * sum(more), 2 * len(more)


def tolerances(ring):
    """0, LIMIT, half of each range, and one more and one less than that."""
    ranges = [high - low for low, high in swings(ring)]
    near = [reach // 2 + by for reach in ranges for by in (-1, 0, 1, 2)]
    return sorted({0, LIMIT} | {number for number in near if 0 <= number <= LIMIT})


def bound_of(ring, tolerance, places):
    """The bound of a tuple of numbers as a zigzag, or None: valleys and peaks in turn, far enough apart."""
    count = len(places)
    if count % 2 or any(place not in range(len(ring)) for place in places):
        return None
    if any(places[at] >= places[at + 1] for at in range(count - 1)):
        return None
    for first in (0, 1):
        # Either the items at even indexes are the low ones, or those at odd indexes.
        lows = [ring[places[at]] for at in range(first, count, 2)]
        highs = [ring[places[(at + 1) % count]] for at in range(first, count, 2)]
        rises = [high - low for low, high in zip(lows, highs)]
        falls = [high - low for low, high in zip(lows[1:] + lows[:1], highs)]
        if all(step > 2 * tolerance for step in rises + falls):
            return sum(rises + falls) - 2 * tolerance * count
    return None


def replacements(value):
    """The tuple with one part left out, doubled, or replaced by something near it or of another kind."""
    for at, part in enumerate(value):
        rest = value[:at], value[at + 1:]
        yield rest[0] + rest[1]
        yield rest[0] + (part, part) + rest[1]
        for other in (None, True, False, "", str(part), [part], (part,), {}, -1, 24, 10 ** 30 - 1):
            yield rest[0] + (other,) + rest[1]
        if isinstance(part, int):
            yield rest[0] + (part + 1,) + rest[1]
            yield rest[0] + (part - 1,) + rest[1]


def twice(collection):
    """The smallest height that occurs twice in a collection, or None."""
    heights = [height for swing in collection for height in swing]
    return min((height for height in heights if heights.count(height) > 1), default=None)


def rings_in_order(collection):
    """All rings of a distinct collection, by the words of point 10; the index of each is its place in the list."""
    if not collection:
        return [(0,)]
    ordered = sorted(collection, key=lambda swing: (swing[0] - swing[1], swing))
    found = [list(ordered[0])]
    for low, high in ordered[1:]:
        # Writing down the choices one after another is counting: the last choice changes fastest.
        found = [after for ring in found for after in insertions(ring, low, high)]
    return [tuple(ring) for ring in found]


def insertions(ring, low, high):
    """The lists that result if (low, high) is inserted in each run in which it can be inserted, in order."""
    for place, start in enumerate(ring):
        end = ring[(place + 1) % len(ring)]
        if start < low and high < end:
            yield ring[:place + 1] + [high, low] + ring[place + 1:]
        if end < low and high < start:
            yield ring[:place + 1] + [low, high] + ring[place + 1:]


def mixed_collections(count):
    """The same distinct collections each time, of one to twelve swings, some with heights at both limits."""
    source = random.Random(2028)
    for _ in range(count):
        size = source.choice((1, 2, 3, 6, 11, 12))
        top = source.choice((12, 30, LIMIT))
        inner = source.sample(range(1 - top, top), 2 * size - 2)
        pairs = [tuple(sorted(inner[at:at + 2])) for at in range(0, len(inner), 2)]
        yield tuple(sorted([(-top, top), *pairs]))


def is_pairing(first, second, d, pairs):
    """Whether a tuple of pairs of numbers is a pairing, by the words of point 14."""
    ones, others = swings(first), swings(second)
    if any(one >= other for one, other in zip(pairs, pairs[1:])):
        return False
    for i, j in pairs:
        if i not in range(len(ones)) or j not in range(len(others)):
            return False
        if abs(ones[i][0] - others[j][0]) > d or abs(ones[i][1] - others[j][1]) > d:
            return False
        if len([pair for pair in pairs if pair[0] == i]) > 1 or len([pair for pair in pairs if pair[1] == j]) > 1:
            return False
    missing = [at for at, (low, high) in enumerate(ones) if high - low > 2 * d and at not in dict(pairs)]
    lacking = [at for at, (low, high) in enumerate(others)
               if high - low > 2 * d and at not in [j for _, j in pairs]]
    return not missing and not lacking


def has_pairing(first, second, d):
    """Whether there is a pairing: all sets of partners that the swings of the first ring can have are tried."""
    ones, others = swings(first), swings(second)
    needed = {at for at, (low, high) in enumerate(others) if high - low > 2 * d}
    reached = {frozenset()}
    for low, high in ones:
        near = [at for at, other in enumerate(others) if abs(other[0] - low) <= d and abs(other[1] - high) <= d]
        taken = {used | {at} for used in reached for at in near if at not in used}
        reached = taken if high - low > 2 * d else taken | reached
    return any(needed <= used for used in reached)


def distances(first, second):
    """All numbers that can be the distance: 0, differences of lows and of highs, and halves of ranges."""
    ones, others = swings(first), swings(second)
    found = {0} | {(high - low + 1) // 2 for low, high in ones + others}
    for one, other in itertools.product(ones, others):
        found |= {abs(one[0] - other[0]), abs(one[1] - other[1])}
    return sorted(found)


def distance(first, second):
    """The least of them for which there is a pairing."""
    return next(d for d in distances(first, second) if has_pairing(first, second, d))


def number_texts(numbers):
    """The texts of numbers, digit by digit."""
    for number in numbers:
        digits = []
        rest = abs(number)
        while rest or not digits:
            digits.insert(0, "0123456789"[rest % 10])
            rest //= 10
        yield ("-" if number < 0 else "") + "".join(digits)
