"""The interface: names, arguments and kinds of values."""

import copy
import inspect
import unittest

from ringswings import bounds, rings, shapes, swings
from tests.oracles import OTHER_VALUES, nested_values

PARAMETERS = {
    rings.is_ring: ["value"],
    rings.ring_error: ["value"],
    rings.turning_places: ["ring"],
    rings.movement_of: ["ring"],
    swings.passage_places: ["ring", "low", "high"],
    swings.count_passages: ["ring", "low", "high"],
    swings.swings_of: ["ring"],
    swings.find_removal: ["ring"],
    swings.removal_holds: ["ring", "value"],
    swings.are_alike: ["first", "second"],
    swings.find_difference: ["first", "second"],
    shapes.is_collection: ["value"],
    shapes.make_ring: ["collection"],
    shapes.plain_ring: ["ring"],
}

R = (0, 5, 2, 7, 1, 3)


class BoundsTest(unittest.TestCase):
    def test_bounds(self):
        values = [bounds.LIMIT, bounds.MAX_LENGTH, bounds.MAX_EDITS, bounds.BATCH]
        self.assertEqual(values, [1000000000, 24, 60, 20])
        self.assertEqual([type(value) for value in values], [int] * 4)


class InterfaceTest(unittest.TestCase):
    def test_parameters(self):
        for function, names in PARAMETERS.items():
            self.assertEqual(list(inspect.signature(function).parameters), names, function.__name__)

    def test_kinds_of_results(self):
        for result in (rings.is_ring(R), rings.is_ring([]), swings.are_alike(R, R), swings.are_alike(R, (0,)),
                       swings.removal_holds(R, ()), swings.removal_holds((0,), ()), shapes.is_collection(()),
                       shapes.is_collection(((0, 1),)), shapes.is_collection(None)):
            self.assertIs(type(result), bool)
        for result in (rings.turning_places(R), swings.passage_places(R, 2, 3), swings.swings_of(R),
                       swings.find_removal(R), swings.find_removal((0,)), shapes.make_ring(()), shapes.plain_ring(R),
                       rings.ring_error(0), swings.find_difference(R, (0,))):
            self.assertIs(type(result), tuple)
        for result in (rings.movement_of(R), rings.movement_of((0,)), swings.count_passages(R, 2, 3)):
            self.assertIs(type(result), int)
        for pair in swings.swings_of(R) + swings.find_removal(R):
            self.assertIs(type(pair), tuple)

    def test_any_value_is_accepted_and_not_changed(self):
        for value in [*OTHER_VALUES, *nested_values()]:
            before = copy.deepcopy(value)
            for _ in range(2):
                self.assertIs(rings.is_ring(value), False, value)
                self.assertIsNotNone(rings.ring_error(value), value)
                self.assertIs(swings.removal_holds(R, value), False, value)
                self.assertIs(swings.removal_holds((0, 5), value), False, value)
                self.assertIs(shapes.is_collection(value), False, value)
            self.assertEqual(repr(value), repr(before))

    def test_equal_calls_return_equal_results(self):
        for ring in (R, (0, 5, 0, 5, 0, 5), (3, 3, 1, 1, 3)):
            again = tuple(list(ring))
            self.assertEqual(swings.find_removal(ring), swings.find_removal(again))
            self.assertEqual(swings.swings_of(ring), swings.swings_of(again))
            self.assertEqual(shapes.plain_ring(ring), shapes.plain_ring(again))

    def test_no_error_somewhat_beyond_the_limits(self):
        long_ring = tuple(range(30))
        self.assertEqual(swings.swings_of(long_ring), ((0, 29),))
        self.assertEqual(swings.swings_of((0, 10 ** 9 + 5)), ((0, 10 ** 9 + 5),))
        self.assertEqual(rings.movement_of(long_ring), 58)
        self.assertEqual(swings.count_passages(R, -10 ** 35, 10 ** 35), 0)
        self.assertEqual(len(shapes.make_ring(((0, 1),) * 13)), 26)


if __name__ == "__main__":
    unittest.main()
