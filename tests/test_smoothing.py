"""Point 11: smoothing within a tolerance; guarantees (d) and (h)."""

import itertools
import unittest

from ringswings.rings import is_ring, movement_of, turning_places
from ringswings.smoothing import (find_zigzag, lazy_ring, least_movement, least_turns, smoothing_holds,
                                  tolerance_for_movement, tolerance_for_turns, zigzag_bound)
from tests.oracles import (LIMIT, OTHER_VALUES, all_rings, bound_of, least_by_swings, least_of_all, mixed_rings,
                           movement, nested_values, replacements, rings_within, swings, tolerances, turns)

R = (0, 5, 2, 7, 1, 3)
FAR = 10 ** 30 - 1
EDGES = ((0,), (LIMIT,), (-LIMIT,), (4, 4), (7,) * 24, (LIMIT,) * 24, (-LIMIT, LIMIT), (LIMIT, -LIMIT) * 12,
         (-LIMIT, LIMIT, LIMIT - 1, LIMIT), tuple(range(24)), (0, 1) * 12, (0, 0, 5, 5), (5, 0, 0, 5))
# Small rings, some of them at the limits, with tolerances for which all rings within them can be tried.
SMALL = ([(ring, tolerance) for ring in all_rings(4, (0, 1, 2, 4)) for tolerance in (0, 1)]
         + [(ring, 2) for ring in itertools.product((0, 1, 3, 6), repeat=3)]
         + [(ring, 1) for ring in itertools.product((0, 3, 6), repeat=5)][::3]
         + [((LIMIT, LIMIT - 3, LIMIT - 1), 1), ((-LIMIT, 2 - LIMIT, -LIMIT, 5 - LIMIT), 1),
            ((LIMIT, LIMIT - 4, LIMIT), 2), ((LIMIT, LIMIT), 3), ((-LIMIT,), 3)])


def plain_lazy_ring(ring, tolerance):
    """The words of point 11, with a search for the nearest number."""
    path = [ring[0]]
    for place in [*range(1, len(ring)), 0, *range(1, len(ring))]:
        near = range(ring[place] - tolerance, ring[place] + tolerance + 1)
        path.append(min(near, key=lambda number: abs(number - path[-1])))
    return tuple(path[len(ring):])


class LazyRingTest(unittest.TestCase):
    def test_some(self):
        self.assertEqual(lazy_ring(R, 0), R)
        self.assertEqual(lazy_ring(R, 2), (2, 3, 3, 5, 3, 3))
        self.assertEqual(lazy_ring((0, 10, 0, 10), 4), (4, 6, 4, 6))
        self.assertEqual(lazy_ring((0, 10, 0, 10), 5), (5, 5, 5, 5))
        self.assertEqual(lazy_ring((0, 3), 1), (1, 2))
        self.assertEqual(lazy_ring((0, 3), 2), (1, 1))

    def test_the_second_time_round_counts(self):
        self.assertEqual(lazy_ring((5, 0, 0), 2), (3, 2, 2))
        self.assertEqual(lazy_ring((0, 9, 5), 1), (1, 8, 6))
        self.assertEqual(lazy_ring((5, 9, 0), 4), (4, 5, 4))
        self.assertEqual(lazy_ring((9, 0, 5), 4), (5, 4, 4))

    def test_no_turns(self):
        for ring in ((0,), (LIMIT,), (-LIMIT,), (4, 4), (7,) * 24, (-LIMIT,) * 24):
            for tolerance in (0, 1, LIMIT):
                self.assertEqual(lazy_ring(ring, tolerance), ring)

    def test_limits(self):
        self.assertEqual(lazy_ring((-LIMIT, LIMIT), LIMIT), (0, 0))
        self.assertEqual(lazy_ring((-LIMIT, LIMIT) * 12, LIMIT), (0,) * 24)
        self.assertEqual(lazy_ring((-LIMIT, LIMIT) * 12, LIMIT - 1), (-1, 1) * 12)
        self.assertEqual(lazy_ring((LIMIT, LIMIT - 1), LIMIT), (LIMIT, LIMIT))

    def test_against_the_words(self):
        for ring, tolerance in SMALL:
            self.assertEqual(lazy_ring(ring, tolerance), plain_lazy_ring(ring, tolerance), (ring, tolerance))
        for ring in mixed_rings(200):
            if max(ring) <= 30:
                for tolerance in (0, 1, 2, 3, 7, 15, 16, 40):
                    self.assertEqual(lazy_ring(ring, tolerance), plain_lazy_ring(ring, tolerance), (ring, tolerance))

    def test_no_ring_has_less(self):
        for ring, tolerance in SMALL:
            lazy = lazy_ring(ring, tolerance)
            self.assertEqual((movement(lazy), len(turns(lazy))), least_of_all(ring, tolerance), (ring, tolerance))

    def test_within_and_between(self):
        for ring in [*mixed_rings(200), *EDGES]:
            for tolerance in tolerances(ring):
                lazy = lazy_ring(ring, tolerance)
                self.assertIs(is_ring(lazy), True)
                self.assertEqual(len(lazy), len(ring))
                self.assertTrue(all(abs(one - other) <= tolerance for one, other in zip(lazy, ring)))
                self.assertTrue(min(ring) <= min(lazy) and max(lazy) <= max(ring))
                self.assertEqual((movement(lazy), len(turns(lazy))), least_by_swings(ring, tolerance))


class LeastTest(unittest.TestCase):
    def check(self, ring, tolerance, expected):
        self.assertEqual((least_movement(ring, tolerance), least_turns(ring, tolerance)), expected, (ring, tolerance))

    def test_some(self):
        self.check(R, 0, (24, 6))
        self.check(R, 1, (12, 4))
        self.check(R, 2, (6, 2))
        self.check(R, 3, (2, 2))
        self.check(R, 4, (0, 0))
        self.check(R, LIMIT, (0, 0))

    def test_half_of_a_range(self):
        self.check((0, 10), 4, (4, 2))
        self.check((0, 10), 5, (0, 0))
        self.check((0, 10), 6, (0, 0))
        self.check((0, 11), 5, (2, 2))
        self.check((0, 11), 6, (0, 0))

    def test_limits(self):
        self.check((-LIMIT, LIMIT) * 12, 0, (48 * LIMIT, 24))
        self.check((-LIMIT, LIMIT) * 12, LIMIT - 1, (48, 24))
        self.check((-LIMIT, LIMIT) * 12, LIMIT, (0, 0))
        for ring in ((0,), (LIMIT, LIMIT), (-LIMIT,) * 24):
            for tolerance in (0, 1, LIMIT):
                self.check(ring, tolerance, (0, 0))

    def test_against_all_rings_within_the_tolerance(self):
        for ring, tolerance in SMALL:
            self.check(ring, tolerance, least_of_all(ring, tolerance))

    def test_against_the_swings(self):
        for ring in [*mixed_rings(200), *EDGES]:
            for tolerance in tolerances(ring):
                self.check(ring, tolerance, least_by_swings(ring, tolerance))

    def test_tolerance_zero_is_the_ring_itself(self):
        for ring in [*mixed_rings(200), *EDGES]:
            self.check(ring, 0, (movement_of(ring), len(turning_places(ring))))


class FindZigzagTest(unittest.TestCase):
    def test_some(self):
        self.assertEqual(find_zigzag(R, 0), (0, 1, 2, 3, 4, 5))
        self.assertEqual(find_zigzag(R, 3), (0, 3))
        self.assertEqual(find_zigzag(R, 4), ())
        self.assertEqual(find_zigzag((0,), 0), ())
        self.assertEqual(find_zigzag((5,) * 24, 0), ())

    def test_found_zigzags_show_that_no_ring_has_less(self):
        for ring in [*all_rings(5, (0, 1, 3)), *mixed_rings(300), *EDGES]:
            for tolerance in tolerances(ring):
                places = find_zigzag(ring, tolerance)
                least = least_by_swings(ring, tolerance)
                self.assertEqual((bound_of(ring, tolerance, places), len(places)), least, (ring, tolerance))
                self.assertEqual(zigzag_bound(ring, tolerance, places), least[0], (ring, tolerance))
                self.assertIs(smoothing_holds(ring, tolerance, (lazy_ring(ring, tolerance), places)), True)


class ZigzagBoundTest(unittest.TestCase):
    def test_bounds(self):
        self.assertEqual(zigzag_bound(R, 0, (0, 3)), 14)
        self.assertEqual(zigzag_bound(R, 3, (0, 3)), 2)
        self.assertEqual(zigzag_bound(R, 0, (1, 2, 3, 4)), 3 + 5 + 6 + 4)
        self.assertEqual(zigzag_bound((-LIMIT, LIMIT) * 12, LIMIT - 1, tuple(range(24))), 48)

    def test_empty(self):
        for ring in ((0,), (4, 4), R, (0, 1) * 12):
            for tolerance in (0, 1, LIMIT):
                self.assertEqual(zigzag_bound(ring, tolerance, ()), 0)

    def test_a_difference_of_twice_the_tolerance_is_too_little(self):
        self.assertEqual(zigzag_bound((0, 10), 4, (0, 1)), 4)
        self.assertIsNone(zigzag_bound((0, 10), 5, (0, 1)))
        self.assertIsNone(zigzag_bound((0, 10), 6, (0, 1)))
        self.assertEqual(zigzag_bound((0, 11), 5, (0, 1)), 2)
        self.assertIsNone(zigzag_bound((0, 9, 3, 12), 3, (0, 1, 2, 3)))
        self.assertEqual(zigzag_bound((0, 9, 2, 12), 3, (0, 1, 2, 3)), 3 + 1 + 4 + 6)

    def test_last_and_first_are_neighbours(self):
        self.assertIsNone(zigzag_bound((5, 9, 1, 8), 2, (0, 1, 2, 3)))
        self.assertEqual(zigzag_bound((5, 10, 1, 10), 2, (0, 1, 2, 3)), 1 + 5 + 5 + 1)

    def test_not_alternating(self):
        self.assertIsNone(zigzag_bound((0, 5, 10, 15), 1, (0, 1, 2, 3)))
        self.assertIsNone(zigzag_bound((0, 5, 10, 5), 0, (0, 1, 2, 3)))
        self.assertIsNone(zigzag_bound((0, 9, 4, 0, 5, 9), 0, (0, 1, 2, 3)))

    def test_wrong_places(self):
        for value in ((3, 0), (0, 0), (0,), (0, 3, 4), (0, 1, 2), (0, 1, 2, 3, 4), (-1, 0), (-6, 3), (0, 6), (0, 9),
                      (0, FAR), (-FAR, 3), (0, 3, 1, 2), (0, 1, 1, 2), (5, 4, 3, 2, 1, 0), [0, 3], (False, 3),
                      (0, True), ("0", "3"), (0, "3"), ((0, 3),), ((0,), (3,)), ([0], [3]), (0, None), (0, {}), "03",
                      {"0": 3}, None, True, 0, 3):
            self.assertIsNone(zigzag_bound(R, 0, value), value)

    def test_values_of_other_kinds(self):
        for value in [*OTHER_VALUES, *nested_values()]:
            for ring in (R, (0,), (0, 5), (0, 1) * 12):
                self.assertIsNone(zigzag_bound(ring, 0, value), value)

    def test_all_tuples_of_numbers(self):
        for ring in [*all_rings(3, (0, 1, 3)), *all_rings(4, (0, 2, 3))][::2]:
            numbers = range(-1, len(ring) + 1)
            for length in range(5):
                for value in itertools.product(numbers, repeat=length):
                    for tolerance in (0, 1):
                        expected = bound_of(ring, tolerance, value)
                        self.assertEqual(zigzag_bound(ring, tolerance, value), expected, (ring, tolerance, value))

    def test_all_places_of_some_longer_rings(self):
        for ring in (R, (0, 6, 1, 4, 3, 5, 2, 7), (3, 3, 0, 8, 8, 1, 5)):
            for count in range(len(ring) + 1):
                for value in itertools.combinations(range(len(ring)), count):
                    for tolerance in (0, 1, 2, 3):
                        self.assertEqual(zigzag_bound(ring, tolerance, value), bound_of(ring, tolerance, value))
                        if count > 1:
                            self.assertIsNone(zigzag_bound(ring, tolerance, value[::-1]))

    def test_returned_zigzags_with_one_part_changed(self):
        for ring in [R, *mixed_rings(60)]:
            places = find_zigzag(ring, 0)
            for value in replacements(places):
                kinds = {type(part) for part in value}
                expected = bound_of(ring, 0, value) if kinds <= {int} else None
                self.assertEqual(zigzag_bound(ring, 0, value), expected, (ring, value))

    def test_every_zigzag_bounds_every_ring_within_the_tolerance(self):
        for ring, tolerance in SMALL[::5]:
            least = least_of_all(ring, tolerance)
            for count in range(len(ring) + 1):
                for value in itertools.combinations(range(len(ring)), count):
                    bound = zigzag_bound(ring, tolerance, value)
                    self.assertTrue(bound is None or bound <= least[0] and len(value) <= least[1], (ring, value))


class SmoothingHoldsTest(unittest.TestCase):
    def test_some(self):
        self.assertIs(smoothing_holds(R, 0, (R, (0, 1, 2, 3, 4, 5))), True)
        self.assertIs(smoothing_holds((0,), 0, ((0,), ())), True)
        self.assertIs(smoothing_holds((0,), 3, ((3,), ())), True)
        self.assertIs(smoothing_holds((0,), 3, ((4,), ())), False)
        self.assertIs(smoothing_holds((0, 6), 3, ((3, 3), ())), True)
        self.assertIs(smoothing_holds((0, 6), 2, ((2, 4), (0, 1))), True)
        self.assertIs(smoothing_holds((0, 6), 2, ((2, 4), ())), False)
        self.assertIs(smoothing_holds((0, 6), 2, ((1, 4), (0, 1))), False)
        self.assertIs(smoothing_holds((0, 6), 2, ((2, 4, 2), (0, 1))), False)
        self.assertIs(smoothing_holds((0, 6, 0), 2, ((2, 4), (0, 1))), False)

    def test_other_has_to_be_a_ring(self):
        self.assertIs(smoothing_holds((LIMIT, LIMIT), 1, ((LIMIT, LIMIT), ())), True)
        self.assertIs(smoothing_holds((LIMIT, LIMIT), 1, ((LIMIT + 1, LIMIT + 1), ())), False)
        self.assertIs(smoothing_holds((-LIMIT,), 1, ((-LIMIT - 1,), ())), False)
        self.assertIs(smoothing_holds((0, 1), 1, ((1, True), ())), False)
        self.assertIs(smoothing_holds((0, 1), 1, ([1, 1], ())), False)
        self.assertIs(smoothing_holds((0, 1), 1, ((), ())), False)

    def test_zigzag_that_shows_too_little(self):
        self.assertIs(smoothing_holds((0, 5, 2, 5), 1, ((1, 4, 3, 4), (0, 1, 2, 3))), True)
        self.assertIs(smoothing_holds((0, 5, 2, 5), 1, ((1, 4, 3, 4), (0, 1))), False)
        self.assertIs(smoothing_holds((0, 5, 2, 5), 1, ((1, 4, 3, 4), ())), False)
        self.assertIs(smoothing_holds((0, 5, 2, 5), 1, ((1, 4, 4, 4), (0, 1, 2, 3))), False)

    def test_values_of_other_kinds(self):
        lazy, places = lazy_ring(R, 1), find_zigzag(R, 1)
        for value in [*OTHER_VALUES, *nested_values(), (), (lazy,), (lazy, places, ()), [lazy, places],
                      (places, lazy), (lazy, list(places)), (list(lazy), places), lazy, places, (lazy, None),
                      (None, places), (lazy, "0123"), ("143622", places), {"lazy": lazy, "places": places},
                      (lazy, {}), ({}, places), (True, False), (lazy, places[::-1]), (lazy, (False, 1, 2, 3)),
                      (lazy, (0, True, 2, 3)), ((True,) + lazy[1:], places)]:
            self.assertIs(smoothing_holds(R, 1, value), False, value)

    def test_all_rings_and_places(self):
        for ring in all_rings(3, (0, 1, 3)):
            subsets = [places for count in range(4) for places in itertools.combinations(range(len(ring)), count)]
            for tolerance in (0, 1):
                within = set(rings_within(ring, tolerance))
                for other in itertools.product(range(-2, 6), repeat=len(ring)):
                    for places in subsets:
                        bound = bound_of(ring, tolerance, places)
                        expected = (other in within and bound == movement(other)
                                    and len(places) == len(turns(other)))
                        self.assertIs(smoothing_holds(ring, tolerance, (other, places)), expected, (ring, other))

    def test_what_is_accepted_is_best(self):
        accepted = 0
        for ring, tolerance in SMALL[::7]:
            least = least_of_all(ring, tolerance)
            subsets = [places for count in range(len(ring) + 1)
                       for places in itertools.combinations(range(len(ring)), count)]
            for other in rings_within(ring, tolerance):
                holds = any([smoothing_holds(ring, tolerance, (other, places)) for places in subsets])
                best = (movement(other), len(turns(other))) == least
                self.assertIs(holds, best, (ring, tolerance, other))
                accepted += holds
        self.assertGreater(accepted, 100)

    def test_correct_values_with_one_part_changed(self):
        for ring in [R, *mixed_rings(40)]:
            for tolerance in tolerances(ring)[:4]:
                lazy, places = lazy_ring(ring, tolerance), find_zigzag(ring, tolerance)
                least = least_by_swings(ring, tolerance)
                for other in replacements(lazy):
                    right = (is_ring(other) and len(other) == len(ring)
                             and all(abs(one - two) <= tolerance for one, two in zip(other, ring))
                             and (movement(other), len(turns(other))) == least)
                    self.assertIs(smoothing_holds(ring, tolerance, (other, places)), right, (ring, other))
                for value in replacements(places):
                    right = ({type(part) for part in value} <= {int}
                             and (bound_of(ring, tolerance, value), len(value)) == least)
                    self.assertIs(smoothing_holds(ring, tolerance, (lazy, value)), right, (ring, value))


class ToleranceTest(unittest.TestCase):
    def test_turns(self):
        self.assertEqual([tolerance_for_turns(R, turns) for turns in range(8)], [4, 4, 2, 2, 1, 1, 0, 0])
        self.assertEqual(tolerance_for_turns(R, FAR), 0)
        self.assertEqual([tolerance_for_turns((0, 10), turns) for turns in range(4)], [5, 5, 0, 0])
        self.assertEqual(tolerance_for_turns((0, 11), 0), 6)

    def test_movement(self):
        self.assertEqual([tolerance_for_movement(R, movement) for movement in (0, 1, 2, 3, 5, 6, 7, 11, 12, 23, 24)],
                         [4, 4, 3, 3, 3, 2, 2, 2, 1, 1, 0])
        self.assertEqual(tolerance_for_movement(R, FAR), 0)
        self.assertEqual([tolerance_for_movement((0, 1), movement) for movement in range(4)], [1, 1, 0, 0])

    def test_limits(self):
        ring = (-LIMIT, LIMIT) * 12
        self.assertEqual([tolerance_for_turns(ring, turns) for turns in (0, 1, 22, 23, 24, 25)],
                         [LIMIT, LIMIT, LIMIT, LIMIT, 0, 0])
        self.assertEqual([tolerance_for_movement(ring, movement) for movement in (0, 47, 48, 95, 96)],
                         [LIMIT, LIMIT, LIMIT - 1, LIMIT - 1, LIMIT - 2])
        self.assertEqual(tolerance_for_movement(ring, 48 * LIMIT - 1), 1)
        self.assertEqual(tolerance_for_movement(ring, 48 * LIMIT), 0)

    def test_no_turns(self):
        for ring in ((0,), (LIMIT,), (4, 4), (-LIMIT,) * 24):
            for number in (0, 1, 2, FAR):
                self.assertEqual(tolerance_for_turns(ring, number), 0)
                self.assertEqual(tolerance_for_movement(ring, number), 0)

    def test_against_all_rings_within_the_tolerance(self):
        for ring in [*all_rings(3, (0, 1, 2, 4)), *all_rings(4, (0, 1, 3))]:
            least = [least_of_all(ring, tolerance) for tolerance in range(3)]
            self.assertEqual(least[2], (0, 0))
            for number in range(movement(ring) + 3):
                expected = min(at for at in range(3) if least[at][0] <= number)
                self.assertEqual(tolerance_for_movement(ring, number), expected, (ring, number))
                expected = min(at for at in range(3) if least[at][1] <= number)
                self.assertEqual(tolerance_for_turns(ring, number), expected, (ring, number))

    def test_one_less_is_not_enough(self):
        for ring in [*mixed_rings(60), *EDGES]:
            total = movement(ring)
            for number in sorted({0, 1, 2, 3, 7, total // 3, total // 2, abs(total - 1), total, total + 1}):
                found = tolerance_for_movement(ring, number)
                self.assertTrue(0 <= found <= LIMIT)
                self.assertLessEqual(least_by_swings(ring, found)[0], number)
                self.assertTrue(found == 0 or least_by_swings(ring, found - 1)[0] > number, (ring, number))
            for number in range(2 * len(swings(ring)) + 2):
                found = tolerance_for_turns(ring, number)
                self.assertTrue(0 <= found <= LIMIT)
                self.assertLessEqual(least_by_swings(ring, found)[1], number)
                self.assertTrue(found == 0 or least_by_swings(ring, found - 1)[1] > number, (ring, number))


if __name__ == "__main__":
    unittest.main()
