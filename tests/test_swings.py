"""Points 6 to 8: passages, swings, removals, alike rings; guarantees (a), (b) and (h)."""

import itertools
import unittest

from ringswings.swings import (are_alike, count_passages, find_difference, find_removal, passage_places,
                               removal_holds, swings_of)
from tests.oracles import (LIMIT, all_rings, is_removal, mixed_removals, mixed_rings, passages, removals, swings,
                           thresholds, turns, with_two_exchanged)

R = (0, 5, 2, 7, 1, 3)
FAR = 10 ** 30 - 1


class PassagesTest(unittest.TestCase):
    def check(self, ring, low, high, places):
        self.assertEqual(passage_places(ring, low, high), places)
        self.assertEqual(count_passages(ring, low, high), len(places))

    def test_thresholds_that_are_heights(self):
        self.check(R, 0, 7, (0,))
        self.check(R, 2, 5, (0, 2))
        self.check(R, 1, 3, (0, 4))

    def test_thresholds_between_heights(self):
        self.check((0, 10, 4, 20), 1, 9, (0,))
        self.check((0, 10, 4, 20), 5, 6, (0, 2))
        self.check((0, 10, 4, 20), 5, 11, (2,))

    def test_thresholds_outside(self):
        self.check(R, -1, 5, ())
        self.check(R, 2, 8, ())
        self.check(R, 7, 8, ())
        self.check(R, -FAR, FAR, ())
        self.check(R, -FAR, -FAR + 1, ())
        self.check(R, FAR - 1, FAR, ())
        self.check(R, -2, -1, ())

    def test_one_place_and_equal_heights(self):
        for ring in ((3,), (3, 3), (3,) * 24):
            for low, high in ((3, 4), (2, 3), (0, 9), (-FAR, FAR)):
                self.check(ring, low, high, ())

    def test_passage_across_the_end(self):
        self.check((5, 2, 0), 1, 4, (2,))
        self.check((2, 5, 0, 2), 1, 4, (2,))

    def test_last_of_several_low_places(self):
        self.check((0, 0, 1, 3, 5), 1, 5, (2,))
        self.check((0, 5, 0, 0), 0, 5, (0,))
        self.check((1, 5, 0, 0), 0, 5, (3,))

    def test_heights_at_both_limits(self):
        self.check((-LIMIT, LIMIT) * 12, -LIMIT, LIMIT, tuple(range(0, 24, 2)))
        self.check((-LIMIT, LIMIT), -LIMIT - 1, LIMIT, ())
        self.check((-LIMIT, LIMIT), -LIMIT, LIMIT + 1, ())

    def test_against_the_definition(self):
        for ring in [*all_rings(5, (0, 1, 2)), *mixed_rings(40)]:
            for low, high in thresholds([ring])[::3]:
                self.check(ring, low, high, passages(ring, low, high))


class SwingsTest(unittest.TestCase):
    def test_no_swings(self):
        for ring in ((0,), (LIMIT,), (4, 4), (1,) * 24):
            self.assertEqual(swings_of(ring), ())

    def test_ordinary_rings(self):
        self.assertEqual(swings_of((0, 5)), ((0, 5),))
        self.assertEqual(swings_of((0, 5, 2, 7)), ((0, 7), (2, 5)))
        self.assertEqual(swings_of((0, 3, 3, 6, 3)), ((0, 6),))

    def test_equal_swings_and_order(self):
        self.assertEqual(swings_of((0, 5, 0, 5, 0, 5)), ((0, 5), (0, 5), (0, 5)))
        self.assertEqual(swings_of((9, 0, 4, 0)), ((0, 4), (0, 9)))

    def test_full_length_and_limits(self):
        self.assertEqual(swings_of((-LIMIT, LIMIT) * 12), ((-LIMIT, LIMIT),) * 12)
        self.assertEqual(swings_of(tuple(range(24))), ((0, 23),))

    def test_row_of_equal_heights_across_the_end(self):
        self.assertEqual(swings_of((5, 0, 3, 1, 5)), ((0, 5), (1, 3)))
        self.assertEqual(swings_of((0, 0, 5, 2, 7, 0)), ((0, 7), (2, 5)))

    def test_swings_tell_the_passages_and_no_others_do(self):
        for ring in [*all_rings(6, (0, 1, 2)), *all_rings(5, (0, 1, 2, 4)), *mixed_rings(60)]:
            self.assertEqual(swings_of(ring), swings(ring), ring)

    def test_passages_for_all_thresholds(self):
        for ring in [*all_rings(4, (0, 1, 3)), *mixed_rings(40)]:
            found = swings_of(ring)
            self.assertEqual(list(found), sorted(found))
            self.assertTrue(all(-LIMIT <= low < high <= LIMIT for low, high in found))
            for low, high in thresholds([ring])[::3]:
                expected = len([swing for swing in found if swing[0] <= low and swing[1] >= high])
                self.assertEqual(count_passages(ring, low, high), expected, (ring, low, high))


class RemovalTest(unittest.TestCase):
    def test_found_removals_hold_and_show_the_swings(self):
        for ring in [*all_rings(6, (0, 1, 2)), *mixed_rings(300), (0, 1) * 12, (-LIMIT, LIMIT) * 12]:
            removal = find_removal(ring)
            self.assertIs(removal_holds(ring, removal), True, ring)
            self.assertEqual(sorted(place for pair in removal for place in pair), list(turns(ring)))
            self.assertEqual(tuple(sorted((ring[valley], ring[peak]) for valley, peak in removal)), swings_of(ring))

    def test_ring_without_turns(self):
        for ring in ((0,), (4, 4), (9,) * 24):
            self.assertEqual(find_removal(ring), ())
            self.assertIs(removal_holds(ring, ()), True)
            self.assertIs(removal_holds(ring, ((0, 0),)), False)
            self.assertIs(removal_holds(ring, ((0, 1),)), False)

    def test_other_orders(self):
        self.assertIs(removal_holds(R, ((2, 1), (4, 5), (0, 3))), True)
        self.assertIs(removal_holds(R, ((4, 5), (2, 1), (0, 3))), True)
        self.assertIs(removal_holds(R, ((2, 1), (0, 3), (4, 5))), False)
        self.assertIs(removal_holds(R, ((4, 5), (0, 3), (2, 1))), False)

    def test_neighbours_across_the_end(self):
        ring = (3, 0, 7, 1)
        self.assertIs(removal_holds(ring, ((3, 0), (1, 2))), True)
        self.assertIs(removal_holds(ring, ((1, 0), (3, 2))), False)

    def test_neighbours_after_others_are_removed(self):
        ring = (0, 6, 1, 4, 3, 5, 2, 7)
        self.assertIs(removal_holds(ring, ((4, 3), (2, 5), (6, 1), (0, 7))), False)
        self.assertIs(removal_holds(ring, ((4, 3), (6, 5), (2, 1), (0, 7))), True)
        self.assertIs(removal_holds((0, 6, 2, 4, 3, 5, 1, 7), ((4, 3), (2, 5), (6, 1), (0, 7))), True)
        self.assertIs(removal_holds((0, 6, 2, 4, 3, 5, 1, 7), ((2, 5), (4, 3), (6, 1), (0, 7))), False)

    def test_equal_heights_are_allowed(self):
        ring = (0, 5, 0, 5)
        for removal in (((0, 1), (2, 3)), ((2, 1), (0, 3)), ((2, 3), (0, 1)), ((0, 3), (2, 1))):
            self.assertIs(removal_holds(ring, removal), True)

    def test_no_removals(self):
        good = ((4, 5), (2, 1), (0, 3))
        for value in ((), good[:2], good[1:], good + ((0, 3),), good + ((),), good + (None,), list(good),
                      tuple(list(pair) for pair in good), ((5, 4), (2, 1), (0, 3)), ((4, 5), (2, 1), (3, 0)),
                      ((4, 5), (4, 5), (0, 3)), ((4, 5), (2, 1), (2, 1)), ((4, 5, 0), (2, 1), (0, 3)),
                      ((4,), (2, 1), (0, 3)), ((4, 5), (2, True), (0, 3)), ((4, 5), (2, 1), (False, 3)),
                      ((-2, -1), (2, 1), (0, 3)), ((4, 5), (2, 1), (6, 9)), ((4, "5"), (2, 1), (0, 3)),
                      ((4, 4), (2, 1), (0, 3)), ((4, [5]), (2, 1), (0, 3)), (good,), "45", ("45", "21", "03"),
                      ((2, 5), (4, 1), (0, 3)), {"4": 5}, None, 10 ** 30 - 1):
            self.assertIs(removal_holds(R, value), False, value)

    def test_places_that_are_no_turns(self):
        self.assertIs(removal_holds((0, 5, 5), ((0, 1),)), True)
        self.assertIs(removal_holds((0, 5, 5), ((0, 2),)), False)

    def test_holds_exactly_for_all_removals(self):
        for ring in [*all_rings(4, (0, 1, 2)), (0, 0, 3, 1, 4), (3, 1, 4, 1, 3)]:
            expected = removals(ring)
            pairs = list(itertools.product(range(-1, len(ring) + 1), repeat=2))
            for length in range(3):
                for value in itertools.product(pairs, repeat=length):
                    self.assertIs(removal_holds(ring, value), value in expected, (ring, value))

    def test_three_pairs_in_all_orders(self):
        for ring in (R, (0, 5, 0, 5, 0, 5), (0, 4, 2, 4, 2, 6), (5, 1, 6, 0, 5, 0), (2, 3, 1, 4, 0, 5)):
            expected = set(removals(ring))
            valleys = [place for place in range(6) if ring[place] < ring[place - 1]]
            peaks = [place for place in range(6) if place not in valleys]
            for lows in itertools.permutations(valleys):
                for highs in itertools.permutations(peaks):
                    value = tuple(zip(lows, highs))
                    self.assertIs(removal_holds(ring, value), value in expected, (ring, value))

    def check_shows_the_swings(self, ring, removal):
        self.assertIs(removal_holds(ring, removal), True, (ring, removal))
        self.assertEqual(tuple(sorted((ring[valley], ring[peak]) for valley, peak in removal)), swings_of(ring))

    def test_all_removals_show_the_same_swings(self):
        for ring in [*all_rings(6, (0, 1, 2)), (0, 3, 1, 2, 1, 4, 0, 4), (2, 5, 3, 6, 1, 4, 3, 7)]:
            for removal in removals(ring):
                self.check_shows_the_swings(ring, removal)

    def test_removals_of_long_rings(self):
        answers = set()
        for ring in [ring for ring in mixed_rings(80) if len(ring) >= 12]:
            for removal in mixed_removals(ring, 3):
                self.check_shows_the_swings(ring, removal)
                for value in with_two_exchanged(removal):
                    expected = is_removal(ring, value)
                    self.assertIs(removal_holds(ring, value), expected, (ring, value))
                    answers.add(expected)
        self.assertEqual(answers, {True, False})


class AlikeTest(unittest.TestCase):
    def check(self, first, second, expected):
        self.assertEqual(find_difference(first, second), expected)
        self.assertEqual(find_difference(second, first), expected)
        self.assertIs(are_alike(first, second), expected is None)
        self.assertIs(are_alike(second, first), expected is None)

    def test_alike(self):
        self.check(R, R, None)
        self.check(R, R[2:] + R[:2], None)
        self.check(R, R[::-1], None)
        self.check((0,), (5, 5, 5), None)
        self.check((0, 5), (0, 3, 5, 5, 2), None)
        self.check((-LIMIT, LIMIT) * 12, (LIMIT, -LIMIT) * 12, None)

    def test_different(self):
        self.check((0,), (0, 5), (0, 1))
        self.check((0, 5), (0, 6), (0, 6))
        self.check((0, 5), (1, 5), (0, 1))
        self.check((0, 5), (0, 5, 0, 5), (0, 1))
        self.check((0, 9, 0, 4), (0, 9, 0, 6), (0, 5))
        self.check((-LIMIT, LIMIT), (-LIMIT, LIMIT - 1), (-LIMIT, LIMIT))
        self.check((0, 9, 2, 5, 3, 7), (0, 9, 2, 7, 3, 5), None)
        self.check((0, 9, 2, 5, 4, 7), (0, 9, 3, 5, 4, 7), (2, 3))
        self.check((0, 7, 0, 9, 1, 9), (0, 7, 0, 3, 1, 9), (1, 4))

    def test_against_the_definition(self):
        rings = [*all_rings(4, (0, 1, 3))][::2] + [(0, 3, 1, 2, 0, 3), (0, 3, 0, 3, 1, 2), (1, 3, 2, 4), (0, 4, 2, 3)]
        pairs = list(itertools.combinations(range(-1, 6), 2))
        counts = [[len(passages(ring, low, high)) for low, high in pairs] for ring in rings]
        for (first, ones), (second, others) in itertools.combinations(list(zip(rings, counts)), 2):
            different = [pair for pair, one, other in zip(pairs, ones, others) if one != other]
            self.assertEqual(find_difference(first, second), min(different, default=None), (first, second))

    def test_long_rings(self):
        rings = [ring for ring in mixed_rings(60) if len(ring) >= 12 and max(ring) <= 30]
        for first, second in zip(rings, rings[1:]):
            pairs = list(itertools.combinations(range(-32, 33), 2))
            expected = next((pair for pair in pairs
                             if len(passages(first, *pair)) != len(passages(second, *pair))), None)
            self.check(first, second, expected)


if __name__ == "__main__":
    unittest.main()
