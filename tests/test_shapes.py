"""Point 9: collections and plain rings; guarantee (c)."""

import itertools
import unittest

from ringswings.rings import is_ring
from ringswings.shapes import is_collection, make_ring, plain_ring
from ringswings.swings import are_alike, swings_of
from tests.oracles import LIMIT, all_rings, mixed_collections, mixed_rings, swings


class CollectionTest(unittest.TestCase):
    def test_collections(self):
        for value in ((), ((0, 1),), ((-LIMIT, LIMIT),), ((0, 7), (1, 3), (2, 5)), ((0, 3), (0, 7)),
                      ((0, 7), (0, 7)), ((0, 3), (0, 3), (0, 7), (0, 7), (2, 3), (2, 3)), ((0, 1),) * 12):
            self.assertIs(is_collection(value), True, value)

    def test_no_swing_contains_all_others(self):
        for value in (((0, 3), (1, 7)), ((0, 1), (2, 3)), ((0, 5), (0, 5), (1, 6)), ((0, 4), (1, 9), (2, 3))):
            self.assertIs(is_collection(value), False, value)

    def test_thirteen_swings(self):
        self.assertIs(is_collection(((0, 1),) * 13), False)
        self.assertIs(is_collection(((0, 20),) + tuple([(at, at + 1) for at in range(1, 12)])), True)
        self.assertIs(is_collection(((0, 20),) + tuple([(at, at + 1) for at in range(1, 13)])), False)

    def test_not_sorted(self):
        for value in (((0, 7), (0, 3)), ((1, 3), (0, 7)), ((0, 7), (2, 5), (1, 3)), ((0, 7), (1, 5), (1, 3))):
            self.assertIs(is_collection(value), False, value)

    def test_not_a_tuple(self):
        for value in (None, True, 0, "", "none", [], [(0, 7)], {}, {"0": 7}):
            self.assertIs(is_collection(value), False, value)

    def test_items_that_are_no_swings(self):
        for item in (None, True, 5, "07", [0, 7], (), (3,), (3, 4, 5), (3, 3), (4, 3), (3, True), (True, 3), (False, 3),
                     (False, True), (3, None), ("3", "4"), ((3,), (4,)), ([3], 4), (3, LIMIT + 1), (-LIMIT - 1, 3),
                     (3, 10 ** 30 - 1), {}, {"3": 4}, ((3, 4),)):
            self.assertIs(is_collection((item,)), False, item)
            self.assertIs(is_collection(((0, 7), item)), False, item)
            self.assertIs(is_collection((item, (0, 7))), False, item)

    def test_collections_are_the_swings_of_rings(self):
        heights = (0, 1, 2, 3)
        reached = {swings_of(ring) for ring in all_rings(6, heights)}
        some = list(itertools.combinations(heights, 2))
        for count in range(4):
            for value in itertools.combinations_with_replacement(some, count):
                self.assertIs(is_collection(value), value in reached, value)

    def test_swings_of_rings_are_collections(self):
        for ring in [*mixed_rings(300), (-LIMIT, LIMIT) * 12, (0,)]:
            self.assertIs(is_collection(swings_of(ring)), True, ring)


class PlainRingTest(unittest.TestCase):
    def test_make_ring(self):
        self.assertEqual(make_ring(()), (0,))
        self.assertEqual(make_ring(((3, 8),)), (3, 8))
        self.assertEqual(make_ring(((0, 3), (0, 7))), (0, 3, 0, 7))
        self.assertEqual(make_ring(((0, 7), (0, 7))), (0, 7, 0, 7))
        self.assertEqual(make_ring(((0, 3), (0, 7), (0, 7), (2, 7))), (0, 3, 0, 7, 0, 7, 2, 7))
        self.assertEqual(make_ring(((-LIMIT, LIMIT),) * 12), (-LIMIT, LIMIT) * 12)

    def test_made_rings_have_the_swings(self):
        some = list(itertools.combinations(range(5), 2))
        for count in range(5):
            for value in itertools.combinations_with_replacement(some, count):
                if is_collection(value):
                    ring = make_ring(value)
                    self.assertIs(is_ring(ring), True, value)
                    self.assertEqual(swings_of(ring), value)

    def test_made_rings_of_longer_collections_have_the_swings(self):
        answers = set()
        for value in [*mixed_collections(100), *[swings(ring) for ring in mixed_rings(100)]]:
            # Some of the swings twice: a sorted tuple with duplicates, which may lack the one that contains all.
            for some in (value, tuple(sorted(value[:6] * 2)), tuple(sorted(value[-6:] * 2))):
                lowest, highest = min(some, default=(0, 0))[0], max([high for low, high in some], default=0)
                expected = some == () or (lowest, highest) in some
                self.assertIs(is_collection(some), expected, some)
                answers.add(expected)
                if expected:
                    self.assertIs(is_ring(make_ring(some)), True, some)
                    self.assertEqual(swings(make_ring(some)), some)
        self.assertEqual(answers, {True, False})

    def test_plain_ring(self):
        self.assertEqual(plain_ring((5,)), (0,))
        self.assertEqual(plain_ring((5,) * 24), (0,))
        self.assertEqual(plain_ring((7, 2, 2, 5, 0)), (0, 5, 2, 7))
        self.assertEqual(plain_ring((1, 5, 5, 1)), (1, 5))
        for ring in mixed_rings(100):
            self.assertEqual(plain_ring(ring), make_ring(swings_of(ring)))
            self.assertEqual(plain_ring(plain_ring(ring)), plain_ring(ring))

    def test_alike_exactly_if_plain_rings_are_equal(self):
        for first, second in itertools.combinations(list(all_rings(4, (0, 1, 2))), 2):
            self.assertIs(are_alike(first, second), plain_ring(first) == plain_ring(second), (first, second))


if __name__ == "__main__":
    unittest.main()
