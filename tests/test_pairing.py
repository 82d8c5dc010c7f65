"""Point 14: pairings of the swings of two rings; guarantees (f) and (h)."""

import itertools
import random
import time
import unittest

from ringswings.pairing import find_pairing, pairing_holds, swing_distance
from ringswings.shapes import is_collection, make_ring
from tests.oracles import (LIMIT, OTHER_VALUES, all_rings, distance, distances, has_pairing, is_pairing,
                           mixed_collections, mixed_rings, nested_values, replacements, rings_within, swings)

R = (0, 5, 2, 7, 1, 3)
FAR = 10 ** 30 - 1
FULL = (-LIMIT, LIMIT) * 12


def rings_of_swings(heights, most):
    """A ring for each collection of at most so many swings over the heights."""
    some = list(itertools.combinations(heights, 2))
    found = [value for count in range(most + 1) for value in itertools.combinations_with_replacement(some, count)]
    return [make_ring(value) for value in found if is_collection(value)]


def moved_rings(count):
    """The same rings each time, each with another one whose heights differ by at most d, and d."""
    source = random.Random(2029)
    for ring in mixed_rings(count):
        for d in (0, 1, 2, source.randint(0, 12), max(map(abs, ring)) // 3):
            heights = [height + source.choice((-d, d, source.randint(-d, d))) for height in ring]
            yield ring, tuple([max(-LIMIT, min(LIMIT, height)) for height in heights]), d


SMALL = rings_of_swings((0, 1, 2, 4), 3)
SOME = [R, (0,), (4, 4), (0, 5), (1, 6), (0, 5, 2, 7), (0, 5, 0, 5), (0, 9, 1, 8, 2, 7), (-3, 3, -2, 2), (0, 1) * 12,
        (0, 7) * 12, (5, 9, 3, 7, 1, 8, 2, 6)]


class PairingCase(unittest.TestCase):
    def check(self, first, second, d, expected):
        """There is a pairing or not, and the one that is found is one."""
        found = find_pairing(first, second, d)
        self.assertIs(found is not None, expected, (first, second, d))
        if expected:
            self.assertIs(type(found), tuple)
            self.assertTrue(all(type(pair) is tuple for pair in found))
            self.assertIs(is_pairing(first, second, d, found), True, (first, second, d, found))
            self.assertIs(pairing_holds(first, second, d, found), True, (first, second, d, found))
        else:
            self.assertIsNone(found)
        return found


class FindPairingTest(PairingCase):
    def test_without_swings(self):
        for first, second in itertools.product(((0,), (7,), (4, 4), (LIMIT,) * 24), repeat=2):
            for d in (0, 1, LIMIT):
                self.assertEqual(self.check(first, second, d, True), ())

    def test_one_side_without_swings(self):
        for other in ((0,), (9,) * 24, (-LIMIT,)):
            self.check(other, (0, 10), 4, False)
            self.check(other, (0, 10), 5, True)
            self.check((0, 10), other, 4, False)
            self.check((0, 10), other, 5, True)
            self.check((0, 10), other, 6, True)
            self.check((0, 11), other, 5, False)
            self.check((0, 11), other, 6, True)
            self.check(FULL, other, LIMIT - 1, False)
            self.check(FULL, other, LIMIT, True)

    def test_d_is_zero(self):
        for ring in SOME:
            self.assertEqual(len(self.check(ring, ring, 0, True)), len(swings(ring)))
            self.check(ring, ring[::-1], 0, True)
        self.check((0, 5), (0, 6), 0, False)
        self.check((0, 5), (1, 5), 0, False)
        self.check((0, 5), (0, 5, 0, 5), 0, False)
        self.check((0, 5, 4, 5), (0, 5), 0, False)

    def test_each_end_counts(self):
        self.check((0, 20), (3, 20), 3, True)
        self.check((0, 20), (3, 20), 2, False)
        self.check((0, 20), (0, 17), 3, True)
        self.check((0, 20), (0, 17), 2, False)
        self.check((0, 20), (-3, 23), 3, True)
        self.check((0, 20), (-3, 24), 3, False)
        self.check((0, 20), (-4, 23), 3, False)

    def test_narrow_swings_need_no_partner(self):
        self.check((0, 20, 8, 12), (0, 20), 2, True)
        self.check((0, 20, 8, 13), (0, 20), 2, False)
        self.check((0, 20), (0, 20, 8, 12), 2, True)
        self.check((0, 20), (0, 20, 8, 13), 2, False)

    def test_a_narrow_swing_may_be_needed_as_a_partner(self):
        # (0, 5) is greater than twice 2, (1, 4) is not.
        self.assertEqual(self.check((0, 5), (1, 4), 2, True), ((0, 0),))
        self.assertEqual(self.check((1, 4), (0, 5), 2, True), ((0, 0),))

    def test_a_narrow_swing_gives_its_partner_away(self):
        first, second = make_ring(((-10, 20), (0, 5))), make_ring(((-10, 20), (-1, 3), (0, 6)))
        self.assertEqual(self.check(first, second, 2, True), ((0, 0), (1, 2)))
        self.assertEqual(self.check(second, first, 2, True), ((0, 0), (2, 1)))

    def test_wide_swings_change_partners(self):
        first = make_ring(((0, 99), (10, 50), (12, 52)))
        second = make_ring(((0, 99), (9, 49), (11, 51)))
        self.assertEqual(self.check(first, second, 1, True), ((0, 0), (1, 1), (2, 2)))
        # (10, 51) may have both partners, (11, 53) only the one that comes first.
        first = make_ring(((0, 99), (10, 51), (11, 53)))
        second = make_ring(((0, 99), (10, 52), (11, 50)))
        self.assertEqual(self.check(first, second, 1, True), ((0, 0), (1, 2), (2, 1)))
        self.assertEqual(self.check(second, first, 1, True), ((0, 0), (1, 2), (2, 1)))

    def test_a_chain_of_twelve(self):
        # Each but the last swing of the second ring is near to two of the first one.
        first = make_ring(((0, 900), *[(10 + 4 * at, 500 + 4 * at) for at in range(11)]))
        second = make_ring(((0, 900), *[(8 + 4 * at, 498 + 4 * at) for at in range(11)]))
        self.check(first, second, 2, True)
        self.check(second, first, 2, True)
        self.check(first, second, 1, False)

    def test_equal_swings(self):
        self.check((0, 5) * 3, (0, 5) * 3, 0, True)
        self.check((0, 5) * 3, (1, 6) * 3, 1, True)
        self.check((0, 5) * 3, (1, 6) * 2, 1, False)
        self.check((0, 5) * 3, (1, 6) * 2, 2, False)
        self.check((0, 5) * 3, (1, 6) * 2, 3, True)
        self.check((0, 5) * 2, (1, 6) * 3, 2, False)
        self.check((0, 5) * 12, (1, 6) * 12, 1, True)
        self.check((0, 5) * 12, (1, 6) * 11, 1, False)

    def test_as_many_swings_as_possible(self):
        self.assertEqual(len(self.check(FULL, FULL, 0, True)), 12)
        self.check(FULL, (1 - LIMIT, LIMIT - 1) * 12, 0, False)
        self.check(FULL, (1 - LIMIT, LIMIT - 1) * 12, 1, True)
        self.check(FULL, (-LIMIT, LIMIT) * 11, LIMIT - 1, False)
        self.check(FULL, (-LIMIT, LIMIT) * 11, LIMIT, True)
        self.check(FULL, (LIMIT,), LIMIT, True)

    def test_twelve_swings_without_a_pairing(self):
        # Eleven swings have only ten partners, and all of these are alike.
        eleven = [(100 + at, 500 + at) for at in range(11)]
        first = make_ring(((0, 1000), *eleven))
        second = make_ring(((0, 1000), *eleven[:10], (700, 990)))
        started = time.process_time()
        for d in (0, 10, 20, 50, 100, 144):
            self.check(first, second, d, False)
            self.check(second, first, d, False)
        self.assertEqual(swing_distance(first, second), swing_distance(second, first))
        self.assertLess(time.process_time() - started, 5)

    def test_half_of_a_range_one_less_and_one_more(self):
        for first, second in itertools.product(SOME, repeat=2):
            ranges = [high - low for low, high in swings(first) + swings(second)]
            for d in sorted({0, LIMIT} | {max(0, reach // 2 + by) for reach in ranges for by in (-1, 0, 1, 2)}):
                self.check(first, second, d, has_pairing(first, second, d))

    def test_all_small_rings(self):
        answers = [0, 0]
        for first, second in itertools.product(SMALL, repeat=2):
            for d in (0, 1, 2):
                expected = has_pairing(first, second, d)
                self.check(first, second, d, expected)
                answers[expected] += 1
        self.assertGreater(min(answers), 1000)

    def test_longer_rings(self):
        answers = [0, 0]
        for first, second, d in moved_rings(60):
            # One less, and half: the pairing may be missing then.
            for less in sorted({d, max(0, d - 1), d // 2}):
                expected = has_pairing(first, second, less)
                self.check(first, second, less, expected)
                answers[expected] += 1
        self.assertGreater(min(answers), 50)

    def test_collections_of_twelve(self):
        rings = [make_ring(value) for value in mixed_collections(40) if len(value) > 6]
        for first, second in zip(rings, rings[1:]):
            for d in distances(first, second)[::9]:
                self.check(first, second, d, has_pairing(first, second, d))

    def test_equal_calls(self):
        for first, second, d in moved_rings(30):
            again = tuple(list(first)), tuple(list(second))
            self.assertEqual(find_pairing(first, second, d), find_pairing(*again, d))


class PairingHoldsTest(unittest.TestCase):
    def test_some(self):
        self.assertIs(pairing_holds((0,), (5,), 0, ()), True)
        self.assertIs(pairing_holds((0,), (5,), 0, ((0, 0),)), False)
        self.assertIs(pairing_holds((0, 5), (0, 5), 0, ((0, 0),)), True)
        self.assertIs(pairing_holds((0, 5), (0, 5), 0, ()), False)
        self.assertIs(pairing_holds((0, 5), (0, 5), 2, ()), False)
        self.assertIs(pairing_holds((0, 5), (0, 5), 3, ()), True)
        self.assertIs(pairing_holds((0, 5), (0, 5), 3, ((0, 0),)), True)
        self.assertIs(pairing_holds((0, 5), (0, 5), LIMIT, ((0, 0),)), True)

    def test_narrow_swings_may_occur(self):
        first, second = (0, 20, 8, 12), (0, 20, 9, 12)
        self.assertIs(pairing_holds(first, second, 2, ((0, 0),)), True)
        self.assertIs(pairing_holds(first, second, 2, ((0, 0), (1, 1))), True)
        self.assertIs(pairing_holds(first, second, 2, ((1, 1),)), False)
        self.assertIs(pairing_holds(first, second, 1, ((0, 0), (1, 1))), True)
        self.assertIs(pairing_holds(first, second, 1, ((0, 0),)), False)
        self.assertIs(pairing_holds(first, second, 0, ((0, 0), (1, 1))), False)

    def test_swings_of_both_rings_have_to_occur(self):
        self.assertIs(pairing_holds((0, 20), (0, 20, 5, 15), 1, ((0, 0),)), False)
        self.assertIs(pairing_holds((0, 20, 5, 15), (0, 20), 1, ((0, 0),)), False)
        self.assertIs(pairing_holds((0, 20), (0, 20, 5, 15), 5, ((0, 0),)), True)
        self.assertIs(pairing_holds((0, 20, 5, 15), (0, 20), 5, ((0, 0),)), True)

    def test_order_and_repeated_indexes(self):
        ring = (0, 5, 0, 5)
        self.assertIs(pairing_holds(ring, ring, 0, ((0, 0), (1, 1))), True)
        self.assertIs(pairing_holds(ring, ring, 0, ((0, 1), (1, 0))), True)
        self.assertIs(pairing_holds(ring, ring, 0, ((1, 0), (0, 1))), False)
        self.assertIs(pairing_holds(ring, ring, 0, ((1, 1), (0, 0))), False)
        self.assertIs(pairing_holds(ring, ring, 9, ((0, 0),)), True)
        self.assertIs(pairing_holds(ring, ring, 9, ((0, 0), (0, 0))), False)
        self.assertIs(pairing_holds(ring, ring, 9, ((0, 0), (0, 1))), False)
        self.assertIs(pairing_holds(ring, ring, 9, ((0, 0), (1, 0))), False)
        self.assertIs(pairing_holds(ring, ring, 9, ((0, 0), (0, 1), (1, 1))), False)

    def test_other_kinds(self):
        good = ((0, 0), (1, 1), (2, 2))
        self.assertIs(pairing_holds(R, R, 0, good), True)
        for value in (list(good), tuple(list(pair) for pair in good), [list(pair) for pair in good], (0, 0, 1, 1, 2, 2),
                      ((False, 0), (1, 1), (2, 2)), ((0, False), (1, 1), (2, 2)), ((0, 0), (True, 1), (2, 2)),
                      ((0, 0), (1, True), (2, 2)), ((0, 0), (1, 1), (2, 2), ()), ((0, 0), (1, 1), (2, 2), None),
                      ((0, 0), (1, 1), (2, 2, 2)), ((0, 0), (1, 1), (2,)), ((0, 0), (1, 1), "22"),
                      (("0", "0"), ("1", "1"), ("2", "2")), ((0, 0), (1, 1), (2, -1)), ((-3, 0), (1, 1), (2, 2)),
                      ((0, -3), (1, -2), (2, -1)), ((0, 0), (1, 1), (2, 3)), ((0, 0), (1, 1), (3, 2)),
                      ((0, 0), (1, 1), (FAR, 2)), ((0, 0), (1, 1), (2, FAR)), {"0": 0}, good[:2], good[1:], good[::-1],
                      (good,), good + good, None, True, 0, "", "((0, 0), (1, 1), (2, 2))", ((0, 0), (1, 1), {2: 2}),
                      ((0, 0), (1, 1), ((2,), 2)), ((0, 0), (1, 1), ([2], 2)), ((0, 0), (1, 1), (None, 2))):
            self.assertIs(pairing_holds(R, R, 0, value), False, value)

    def test_values_of_other_kinds(self):
        for value in [*OTHER_VALUES, *nested_values()]:
            for first, second, d in ((R, R, 0), ((0,), (0,), 0), ((0, 5), (0, 5), 0), (R, R, LIMIT),
                                     ((0, 5), (0, 5), LIMIT), ((0, 1) * 12, (0, 1) * 12, LIMIT)):
                self.assertIs(pairing_holds(first, second, d, value), False, value)

    def test_all_tuples_of_pairs(self):
        rings = [(0,), (0, 4), (0, 3), (1, 4), (0, 4, 0, 4), (0, 4, 1, 3), (0, 4, 2, 4), (1, 5, 1, 4)]
        pairs = list(itertools.product(range(-1, 3), repeat=2))
        values = [value for length in range(3) for value in itertools.product(pairs, repeat=length)]
        accepted = 0
        for first, second in itertools.product(rings, repeat=2):
            for d in (0, 1, 2):
                for value in values:
                    expected = is_pairing(first, second, d, value)
                    self.assertIs(pairing_holds(first, second, d, value), expected, (first, second, d, value))
                    accepted += expected
        self.assertGreater(accepted, 100)

    def test_all_partners_of_three_swings(self):
        for first, second in itertools.product((R, (0, 6) * 3, (0, 6, 1, 5, 2, 7), (1, 6, 2, 4, 1, 7)), repeat=2):
            for d in (0, 1, 2, 3):
                for count in range(4):
                    for lefts in itertools.combinations(range(3), count):
                        for rights in itertools.product(range(3), repeat=count):
                            value = tuple(zip(lefts, rights))
                            expected = is_pairing(first, second, d, value)
                            self.assertIs(pairing_holds(first, second, d, value), expected, (first, second, d, value))

    def check_changed(self, first, second, d, value):
        right = all(type(pair) is tuple and [type(part) for part in pair] == [int, int] for pair in value)
        expected = right and is_pairing(first, second, d, value)
        self.assertIs(pairing_holds(first, second, d, value), expected, (first, second, d, value))

    def test_returned_pairings_with_one_part_changed(self):
        for first, second, d in moved_rings(20):
            found = find_pairing(first, second, d)
            for value in replacements(found):
                self.check_changed(first, second, d, value)
            for at, pair in enumerate(found):
                for other in replacements(pair):
                    self.check_changed(first, second, d, found[:at] + (other,) + found[at + 1:])
            for one, other in itertools.combinations(range(len(found)), 2):
                value = list(found)
                value[one], value[other] = found[other], found[one]
                self.check_changed(first, second, d, tuple(value))
                value[one], value[other] = (found[one][0], found[other][1]), (found[other][0], found[one][1])
                self.check_changed(first, second, d, tuple(value))
            self.assertIs(pairing_holds(first, second, d, list(found)), False)
            self.assertIs(pairing_holds(first, second, d, found), True)


class DistanceTest(unittest.TestCase):
    def check(self, first, second, expected):
        self.assertEqual(swing_distance(first, second), expected, (first, second))
        self.assertEqual(swing_distance(second, first), expected, (first, second))

    def test_alike_rings(self):
        for ring in [*SOME, FULL, *mixed_rings(30)]:
            self.check(ring, ring, 0)
            self.check(ring, ring[::-1], 0)
            self.check(ring, ring[1:] + ring[:1], 0)
            self.check(ring, make_ring(swings(ring)), 0)

    def test_shifted_rings(self):
        for by in (1, 2, 3, 4, 100):
            # From half of the greatest range on, no swing needs a partner.
            self.check((0, 7, 2, 5), tuple([height + by for height in (0, 7, 2, 5)]), min(by, 4))
            self.check((0, 100), (by, 100 + by), min(by, 50))
        self.check((-LIMIT, LIMIT - 7), (7 - LIMIT, LIMIT), 7)
        self.check((-LIMIT, 0), (0, LIMIT), LIMIT // 2)

    def test_to_a_ring_of_one_place(self):
        for height in (0, LIMIT, -LIMIT):
            self.check((height,), (5,), 0)
            self.check((height,), R, 4)
            self.check((height,), (0, 10), 5)
            self.check((height,), (0, 11), 6)
            self.check((height,), (0, 1), 1)
            self.check((height,), FULL, LIMIT)
            self.check((height,), (9,) * 24, 0)

    def test_as_many_swings_as_possible(self):
        self.check(FULL, (-LIMIT, LIMIT) * 11, LIMIT)
        self.check(FULL, (1 - LIMIT, LIMIT - 2) * 12, 2)
        self.check(FULL, (-LIMIT, LIMIT - 1), LIMIT)
        self.check((0, 10) * 12, (0, 10) * 11, 5)

    def test_all_small_rings(self):
        for first, second in itertools.combinations_with_replacement(SMALL, 2):
            self.check(first, second, distance(first, second))

    def test_longer_rings(self):
        for first, second, d in moved_rings(40):
            self.check(first, second, distance(first, second))
        for first, second in itertools.combinations(SOME, 2):
            self.check(first, second, distance(first, second))

    def test_pairing_exactly_from_the_distance_on(self):
        for first, second in itertools.product(SOME, repeat=2):
            least = swing_distance(first, second)
            self.assertIsNotNone(find_pairing(first, second, least))
            self.assertIsNotNone(find_pairing(first, second, least + 1))
            self.assertIsNotNone(find_pairing(first, second, LIMIT))
            if least:
                self.assertIsNone(find_pairing(first, second, least - 1))

    def test_kind(self):
        for first, second in itertools.product(SOME[:4], repeat=2):
            self.assertIs(type(swing_distance(first, second)), int)


class NearRingsTest(unittest.TestCase):
    """Guarantee (f): if each height changes by at most d, there is a pairing for d."""

    def check(self, first, second, d):
        found = find_pairing(first, second, d)
        self.assertIsNotNone(found, (first, second, d))
        self.assertIs(is_pairing(first, second, d, found), True, (first, second, d))
        self.assertLessEqual(swing_distance(first, second), d)

    def test_small_rings(self):
        for ring in [*all_rings(3, (0, 1, 2, 3)), *all_rings(4, (0, 1, 3))]:
            for other in rings_within(ring, 1):
                self.check(ring, other, 1)
        for ring in itertools.product((0, 2, 3), repeat=3):
            for other in rings_within(ring, 2):
                self.check(ring, other, 2)
        for ring in list(itertools.product((0, 1, 2), repeat=5))[::4]:
            for other in rings_within(ring, 1):
                self.check(ring, other, 1)

    def test_rings_at_the_limits(self):
        for ring in ((LIMIT, LIMIT - 2, LIMIT), (-LIMIT, 1 - LIMIT, 3 - LIMIT), (-LIMIT, LIMIT, -LIMIT)):
            for other in rings_within(ring, 2):
                self.check(ring, other, 2)

    def test_longer_rings(self):
        for first, second, d in moved_rings(150):
            self.assertTrue(all(abs(one - other) <= d for one, other in zip(first, second)))
            self.check(first, second, d)

    def test_one_height_of_longer_rings(self):
        for ring in mixed_rings(40):
            for place in range(0, len(ring), 5):
                for d in (1, 2, 7):
                    other = ring[:place] + (max(-LIMIT, ring[place] - d),) + ring[place + 1:]
                    self.check(ring, other, d)


if __name__ == "__main__":
    unittest.main()
