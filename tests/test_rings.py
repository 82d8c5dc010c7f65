"""Points 4 and 5: rings, turns, movement."""

import unittest

from ringswings.rings import is_ring, movement_of, ring_error, turning_places
from tests.oracles import LIMIT, all_rings, mixed_rings, turns


class RingErrorTest(unittest.TestCase):
    def test_rings(self):
        for ring in ((0,), (0, 0), (-LIMIT,), (LIMIT,), (-LIMIT, LIMIT), (7,) * 24, tuple(range(24))):
            self.assertIsNone(ring_error(ring), ring)
            self.assertIs(is_ring(ring), True, ring)

    def check(self, value, error):
        self.assertEqual(ring_error(value), error)
        self.assertIs(is_ring(value), False)

    def test_not_a_tuple(self):
        for value in (None, True, 5, "0 5", [], [0, 5], [True], [0] * 25, {}, {"0": 5}):
            self.check(value, (None, "tuple"))

    def test_length(self):
        self.check((), (None, "length"))
        self.check((0,) * 25, (None, "length"))
        self.check((0,) * 1000, (None, "length"))

    def test_length_comes_before_height(self):
        self.check((None,) * 25, (None, "length"))

    def test_height(self):
        for item in (None, True, False, "5", "", [5], (5,), (), {}, LIMIT + 1, -LIMIT - 1, 10 ** 30 - 1):
            self.check((item,), (0, "height"))
            self.check((0, 5, item), (2, "height"))
            self.check((0,) * 23 + (item,), (23, "height"))

    def test_first_wrong_height(self):
        self.check((0, True, None), (1, "height"))
        self.check((0, 5, None, True), (2, "height"))


class TurningPlacesTest(unittest.TestCase):
    def test_no_turns(self):
        for ring in ((0,), (LIMIT,), (4, 4), (0,) * 24):
            self.assertEqual(turning_places(ring), ())

    def test_two_places(self):
        self.assertEqual(turning_places((0, 5)), (0, 1))
        self.assertEqual(turning_places((LIMIT, -LIMIT)), (0, 1))

    def test_places_on_the_way_are_no_turns(self):
        self.assertEqual(turning_places((0, 1, 2, 3, 2, 1)), (0, 3))
        self.assertEqual(turning_places((2, 3, 2, 1, 0, 1)), (1, 4))
        self.assertEqual(turning_places((0, 1, 1, 2)), (0, 3))

    def test_row_of_equal_heights_turns_at_its_first_place(self):
        self.assertEqual(turning_places((0, 5, 5, 5)), (0, 1))
        self.assertEqual(turning_places((5, 0, 0, 5, 2)), (0, 1, 3, 4))
        self.assertEqual(turning_places((1, 0, 0, 5, 5)), (1, 3))

    def test_row_of_equal_heights_across_the_end(self):
        self.assertEqual(turning_places((5, 0, 5)), (1, 2))
        self.assertEqual(turning_places((5, 5, 0, 0, 5)), (2, 4))
        self.assertEqual(turning_places((0, 0, 5, 5, 0)), (2, 4))
        self.assertEqual(turning_places((2, 2, 5, 0, 2)), (2, 3))

    def test_full_length(self):
        self.assertEqual(turning_places((0, 1) * 12), tuple(range(24)))
        self.assertEqual(turning_places(tuple(range(24))), (0, 23))

    def test_against_the_definition(self):
        for ring in [*all_rings(6, (0, 1, 2)), *mixed_rings(300)]:
            self.assertEqual(turning_places(ring), turns(ring), ring)

    def test_turns_alternate(self):
        for ring in mixed_rings(100):
            heights = [ring[place] for place in turning_places(ring)]
            rises = [height > heights[at - 1] for at, height in enumerate(heights)]
            self.assertTrue(all(rise != rises[at - 1] for at, rise in enumerate(rises)), ring)


class MovementTest(unittest.TestCase):
    def test_movement(self):
        self.assertEqual(movement_of((7,)), 0)
        self.assertEqual(movement_of((4, 4)), 0)
        self.assertEqual(movement_of((3,) * 24), 0)
        self.assertEqual(movement_of((0, 5)), 10)
        self.assertEqual(movement_of((0, -5, 2)), 14)

    def test_heights_at_both_limits(self):
        self.assertEqual(movement_of((-LIMIT, LIMIT) * 12), 48 * LIMIT)

    def test_against_the_definition(self):
        for ring in mixed_rings(100):
            expected = sum(abs(ring[place] - ring[(place + 1) % len(ring)]) for place in range(len(ring)))
            self.assertEqual(movement_of(ring), expected)


if __name__ == "__main__":
    unittest.main()
