"""Points 12 and 13: changed rings and the effect of a step; guarantee (e)."""

import collections
import itertools
import unittest

from ringswings.changing import (backward, insert_height, reflected, remove_place, repeated, scaled, set_height,
                                 step_effect, turned)
from ringswings.errors import LastPlace, OutOfRange, TooLong
from ringswings.rings import is_ring
from tests.oracles import LIMIT, all_rings, mixed_rings, movement, swings

R = (0, 5, 2, 7, 1, 3)
FAR = 10 ** 30 - 1
LONG = tuple(range(24))


class PlaceTest(unittest.TestCase):
    def test_set_height(self):
        self.assertEqual(set_height((3,), 0, 4), (4,))
        self.assertEqual(set_height(R, 0, 9), (9, 5, 2, 7, 1, 3))
        self.assertEqual(set_height(R, 5, -LIMIT), (0, 5, 2, 7, 1, -LIMIT))
        self.assertEqual(set_height(R, 2, 2), R)
        self.assertEqual(set_height(LONG, 23, LIMIT), LONG[:23] + (LIMIT,))

    def test_insert_height(self):
        self.assertEqual(insert_height((3,), 0, 4), (4, 3))
        self.assertEqual(insert_height((3,), 1, 4), (3, 4))
        self.assertEqual(insert_height(R, 2, LIMIT), (0, 5, LIMIT, 2, 7, 1, 3))
        self.assertEqual(insert_height(LONG[:23], 23, 23), LONG)
        self.assertEqual(insert_height(LONG[1:], 0, 0), LONG)

    def test_insert_height_too_long(self):
        for place in (0, 7, 23, 24):
            with self.assertRaises(TooLong) as caught:
                insert_height(LONG, place, 0)
            self.assertEqual(caught.exception.bound, 24)

    def test_remove_place(self):
        self.assertEqual(remove_place((3, 4), 0), (4,))
        self.assertEqual(remove_place((3, 4), 1), (3,))
        self.assertEqual(remove_place(R, 3), (0, 5, 2, 1, 3))
        self.assertEqual(remove_place(LONG, 23), LONG[:23])

    def test_remove_last_place(self):
        for height in (0, LIMIT):
            with self.assertRaises(LastPlace):
                remove_place((height,), 0)

    def test_every_place(self):
        for ring in mixed_rings(60):
            for place in range(len(ring)):
                heights = list(ring)
                heights[place] = 12
                self.assertEqual(set_height(ring, place, 12), tuple(heights))
                if len(ring) > 1:
                    heights.pop(place)
                    self.assertEqual(remove_place(ring, place), tuple(heights))
            for place in range(len(ring) + 1):
                if len(ring) < 24:
                    heights = list(ring)
                    heights.insert(place, -12)
                    self.assertEqual(insert_height(ring, place, -12), tuple(heights))


class WholeRingTest(unittest.TestCase):
    def test_turned(self):
        self.assertEqual(turned((3,), 0), (3,))
        self.assertEqual(turned(R, 0), R)
        self.assertEqual(turned(R, 5), (3, 0, 5, 2, 7, 1))
        for ring in mixed_rings(60):
            for place in range(len(ring)):
                expected = tuple(ring[(place + step) % len(ring)] for step in range(len(ring)))
                self.assertEqual(turned(ring, place), expected)

    def test_backward(self):
        self.assertEqual(backward((3,)), (3,))
        self.assertEqual(backward(R), (3, 1, 7, 2, 5, 0))
        for ring in mixed_rings(60):
            self.assertEqual(backward(ring), tuple(ring[-1 - place] for place in range(len(ring))))

    def test_turned_and_backward_keep_the_swings(self):
        for ring in mixed_rings(60):
            self.assertEqual(swings(turned(ring, len(ring) // 2)), swings(ring))
            self.assertEqual(swings(backward(ring)), swings(ring))

    def test_reflected(self):
        self.assertEqual(reflected((3,), 0), (-3,))
        self.assertEqual(reflected(R, -1), (-1, -6, -3, -8, -2, -4))
        self.assertEqual(reflected((-LIMIT, LIMIT), 0), (LIMIT, -LIMIT))
        self.assertEqual(reflected((LIMIT, LIMIT), 2 * LIMIT), (LIMIT, LIMIT))
        self.assertEqual(reflected((-LIMIT,), -2 * LIMIT), (-LIMIT,))
        self.assertEqual(reflected((0, LIMIT), LIMIT), (LIMIT, 0))

    def test_reflected_out_of_range(self):
        for ring, total in (((-LIMIT, LIMIT), 1), ((-LIMIT, LIMIT), -1), ((0, 5), LIMIT + 1), ((5, 0), LIMIT + 1),
                            (R, FAR), (R, -FAR), ((LIMIT,) * 24, FAR), ((-LIMIT,), 1), ((LIMIT,), -1)):
            with self.assertRaises(OutOfRange):
                reflected(ring, total)

    def test_scaled(self):
        self.assertEqual(scaled(R, 1, 0), R)
        self.assertEqual(scaled(R, 3, -2), (-2, 13, 4, 19, 1, 7))
        self.assertEqual(scaled((-1, 1), LIMIT, 0), (-LIMIT, LIMIT))
        self.assertEqual(scaled((0,) * 24, FAR, -LIMIT), (-LIMIT,) * 24)
        self.assertEqual(scaled((1,), FAR, -FAR), (0,))
        self.assertEqual(scaled((-1, -1), FAR, FAR), (0, 0))
        self.assertEqual(scaled((1,), FAR, LIMIT - FAR), (LIMIT,))

    def test_scaled_out_of_range(self):
        for ring, factor, offset in (((0, 1), LIMIT, 1), ((0, -1), LIMIT, -1), ((0, 1), LIMIT + 1, 0), (R, 1, FAR),
                                     (R, 1, -FAR), (R, FAR, 0), ((1, 2), FAR, -FAR), ((LIMIT,), 1, 1),
                                     ((-LIMIT,), 1, -1), ((0, 0, 0, 1), FAR, FAR), ((1,), FAR, LIMIT - FAR + 1)):
            with self.assertRaises(OutOfRange):
                scaled(ring, factor, offset)

    def test_every_height_is_looked_at(self):
        for place in range(24):
            ring = set_height((0,) * 24, place, 1)
            with self.assertRaises(OutOfRange):
                scaled(ring, LIMIT, 1)
            with self.assertRaises(OutOfRange):
                reflected(ring, -LIMIT)

    def test_repeated(self):
        self.assertEqual(repeated((3,), 1), (3,))
        self.assertEqual(repeated((3,), 24), (3,) * 24)
        self.assertEqual(repeated(R, 1), R)
        self.assertEqual(repeated(R, 4), R + R + R + R)
        self.assertEqual(repeated(LONG, 1), LONG)
        self.assertEqual(repeated(LONG[:12], 2), LONG[:12] + LONG[:12])

    def test_repeated_too_long(self):
        for ring, times in (((3,), 25), (R, 5), (LONG, 2), (LONG[:13], 2), (LONG[:7], 4), ((3,), FAR), (R, FAR),
                            (LONG, FAR)):
            with self.assertRaises(TooLong) as caught:
                repeated(ring, times)
            self.assertEqual(caught.exception.bound, 24)

    def test_results_are_rings(self):
        for ring in mixed_rings(60):
            for result in (turned(ring, 0), backward(ring), reflected(ring, 0), scaled(ring, 1, 0), repeated(ring, 1)):
                self.assertIs(is_ring(result), True)
                self.assertEqual(movement(result), movement(ring))


def plain_effect(ring, place, step):
    """The effect, by counting the swings before and after the step."""
    before = collections.Counter(swings(ring))
    after = collections.Counter(swings(ring[:place] + (ring[place] + step,) + ring[place + 1:]))
    old, new = list((before - after).elements()), list((after - before).elements())
    names = {(0, 0): "none", (0, 1): "new", (1, 0): "gone", (1, 1): "moved"}
    return (names[len(old), len(new)], *old, *new)


class StepEffectTest(unittest.TestCase):
    def test_some(self):
        self.assertEqual(step_effect((0, 0), 1, 1), ("new", (0, 1)))
        self.assertEqual(step_effect((0, 0), 1, -1), ("new", (-1, 0)))
        self.assertEqual(step_effect((0, 1), 0, 1), ("gone", (0, 1)))
        self.assertEqual(step_effect((0, 3, 6, 3), 1, 1), ("none",))
        self.assertEqual(step_effect((0, 3, 2, 6), 2, 1), ("gone", (2, 3)))
        self.assertEqual(step_effect((0, 3, 3, 6), 2, -1), ("new", (2, 3)))
        self.assertEqual(step_effect((0, 5, 5), 1, -1), ("none",))
        self.assertEqual(step_effect((0, 5, 5), 1, 1), ("moved", (0, 5), (0, 6)))
        self.assertEqual(step_effect((0, 5, 0, 5), 1, 1), ("moved", (0, 5), (0, 6)))
        self.assertEqual(step_effect((0, 1, 0, 1), 1, -1), ("gone", (0, 1)))

    def test_one_place(self):
        for height in (0, LIMIT - 1, 1 - LIMIT):
            for step in (1, -1):
                self.assertEqual(step_effect((height,), 0, step), ("none",))

    def test_limits(self):
        for ring in ((LIMIT,), (LIMIT, 0), (LIMIT,) * 24, (LIMIT, -LIMIT) * 12):
            with self.assertRaises(OutOfRange):
                step_effect(ring, 0, 1)
            with self.assertRaises(OutOfRange):
                step_effect(reflected(ring, 0), 0, -1)
        self.assertEqual(step_effect((LIMIT - 1, 0), 0, 1), ("moved", (0, LIMIT - 1), (0, LIMIT)))
        self.assertEqual(step_effect((LIMIT, 0), 0, -1), ("moved", (0, LIMIT), (0, LIMIT - 1)))
        self.assertEqual(step_effect((1 - LIMIT, 0), 0, -1), ("moved", (1 - LIMIT, 0), (-LIMIT, 0)))
        self.assertEqual(step_effect((-LIMIT, 0), 0, 1), ("moved", (-LIMIT, 0), (1 - LIMIT, 0)))
        self.assertEqual(step_effect((LIMIT, LIMIT), 1, -1), ("new", (LIMIT - 1, LIMIT)))
        self.assertEqual(step_effect((-LIMIT, LIMIT) * 12, 23, -1),
                         ("moved", (-LIMIT, LIMIT), (-LIMIT, LIMIT - 1)))

    def check(self, ring, place, step):
        effect = step_effect(ring, place, step)
        self.assertEqual(effect, plain_effect(ring, place, step), (ring, place, step))
        if effect[0] in ("new", "gone"):
            self.assertEqual(effect[1][1] - effect[1][0], 1)
        if effect[0] == "moved":
            ends = [abs(old - new) for old, new in zip(effect[1], effect[2])]
            self.assertEqual(sorted(ends), [0, 1])
        return effect[0]

    def test_all_steps_of_small_rings(self):
        names = set()
        for ring in [*all_rings(5, (0, 1, 2)), *all_rings(4, (0, 1, 2, 3))]:
            for place, step in itertools.product(range(len(ring)), (1, -1)):
                names.add(self.check(ring, place, step))
        self.assertEqual(names, {"none", "new", "gone", "moved"})

    def test_steps_of_longer_rings(self):
        for ring in mixed_rings(60):
            for place, step in itertools.product(range(0, len(ring), 3), (1, -1)):
                if abs(ring[place] + step) <= LIMIT:
                    self.check(ring, place, step)

    def test_there_and_back(self):
        opposite = {"none": "none", "new": "gone", "gone": "new", "moved": "moved"}
        for ring in [*all_rings(4, (0, 1, 2)), R]:
            for place in range(len(ring)):
                there = step_effect(ring, place, 1)
                back = step_effect(set_height(ring, place, ring[place] + 1), place, -1)
                self.assertEqual(back, (opposite[there[0]], *there[:0:-1]))


if __name__ == "__main__":
    unittest.main()
