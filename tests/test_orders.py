"""Point 10: rings of distinct collections, counted and numbered."""

import itertools
import math
import unittest

from ringswings.errors import NoIndex, NotDistinct
from ringswings.orders import count_rings, ring_at, ring_index
from ringswings.rings import is_ring, turning_places
from ringswings.shapes import is_collection, plain_ring
from ringswings.swings import swings_of
from tests.oracles import (LIMIT, OTHER_VALUES, mixed_collections, nested_values, rings_in_order, swings, turns, twice)

C = ((0, 7), (1, 3), (2, 5))
FAR = 10 ** 30 - 1
# Twelve swings, each of which contains the next one, side by side, and of equal range.
NESTED = tuple([(at, 40 - at) for at in range(12)])
BESIDE = ((0, 40), *[(at, at + 1) for at in range(1, 23, 2)])
SHIFTED = ((0, 40), *[(at, at + 12) for at in range(1, 12)])
LARGE = {NESTED: 2 ** 11 * math.factorial(11), BESIDE: 2 ** 11, SHIFTED: 2 ** 11}


def distinct_collections(heights):
    """All distinct collections over so many heights, all of which occur."""
    def matchings(left):
        if not left:
            yield ()
        for at in range(1, len(left)):
            for rest in matchings(left[1:at] + left[at + 1:]):
                yield ((left[0], left[at]), *rest)
    for pairs in matchings(tuple(range(heights))):
        collection = tuple(sorted(pairs))
        if is_collection(collection):
            yield collection


SMALL = [collection for heights in (0, 2, 4, 6, 8) for collection in distinct_collections(heights)]


class CountTest(unittest.TestCase):
    def test_empty_and_one_swing(self):
        self.assertEqual(count_rings(()), 1)
        for swing in ((0, 1), (-LIMIT, LIMIT), (-5, -3), (LIMIT - 1, LIMIT)):
            self.assertEqual(count_rings((swing,)), 1)

    def test_some(self):
        self.assertEqual(count_rings(((0, 9), (1, 8))), 2)
        self.assertEqual(count_rings(((0, 9), (1, 8), (2, 7))), 2 * 4)
        self.assertEqual(count_rings(((0, 9), (1, 8), (2, 4), (5, 7))), 2 * 4 * 4)
        self.assertEqual(count_rings(((0, 9), (1, 5), (4, 8))), 2 * 2)
        self.assertEqual(count_rings(((-LIMIT, LIMIT), (1 - LIMIT, LIMIT - 1))), 2)

    def test_twelve_swings(self):
        self.assertEqual(count_rings(NESTED), 81749606400)
        self.assertEqual(count_rings(BESIDE), 2048)
        self.assertEqual(count_rings(SHIFTED), 2048)

    def test_against_the_words(self):
        self.assertGreater(len(SMALL), 15)
        for collection in SMALL:
            self.assertEqual(count_rings(collection), len(rings_in_order(collection)), collection)

    def test_kind(self):
        for collection in ((), ((0, 1),), C, NESTED):
            self.assertIs(type(count_rings(collection)), int)


class NotDistinctTest(unittest.TestCase):
    def check(self, collection, height):
        self.assertIs(is_collection(collection), True, collection)
        for call in (lambda: count_rings(collection), lambda: ring_at(collection, 0), lambda: ring_at(collection, -1),
                     lambda: ring_at(collection, None), lambda: ring_at(collection, True),
                     lambda: ring_at(collection, FAR)):
            with self.assertRaises(NotDistinct) as caught:
                call()
            self.assertEqual(repr(caught.exception.height), repr(height), collection)

    def test_two_lows(self):
        self.check(((0, 5), (0, 7)), 0)
        self.check(((0, 9), (2, 5), (2, 7)), 2)

    def test_two_highs(self):
        self.check(((0, 7), (3, 7)), 7)
        self.check(((0, 9), (2, 5), (3, 5)), 5)

    def test_a_low_and_a_high(self):
        self.check(((0, 9), (1, 4), (4, 6)), 4)
        self.check(((0, 9), (4, 6), (6, 8)), 6)
        self.check(((-LIMIT, LIMIT), (-3, 0), (0, 3)), 0)

    def test_equal_swings(self):
        self.check(((0, 7), (0, 7)), 0)
        self.check(((0, 7), (2, 5), (2, 5)), 2)
        self.check(((-LIMIT, LIMIT),) * 12, -LIMIT)

    def test_the_smallest_of_several(self):
        self.check(((0, 9), (1, 4), (2, 9), (4, 6)), 4)
        self.check(((0, 9), (1, 4), (1, 9), (4, 6)), 1)
        self.check(((0, 9), (1, 8), (2, 8), (3, 7), (5, 7)), 7)
        self.check(((-LIMIT, LIMIT - 1), (-LIMIT, LIMIT), (0, LIMIT)), -LIMIT)
        self.check(((0, 9), (3, 5), (3, 7), (3, 8)), 3)

    def test_a_height_near_another_one_is_no_repetition(self):
        self.assertEqual(count_rings(((0, 9), (1, 2), (3, 4), (5, 8))), 8)

    def test_all_small_collections(self):
        some = list(itertools.combinations(range(5), 2))
        for count in range(4):
            for value in itertools.combinations_with_replacement(some, count):
                if is_collection(value) and twice(value) is not None:
                    self.check(value, twice(value))


class RingAtTest(unittest.TestCase):
    def test_empty_and_one_swing(self):
        self.assertEqual(ring_at((), 0), (0,))
        self.assertEqual(ring_at(((3, 8),), 0), (3, 8))
        self.assertEqual(ring_at(((-LIMIT, LIMIT),), 0), (-LIMIT, LIMIT))

    def test_some(self):
        self.assertEqual([ring_at(C, index) for index in range(4)],
                         [(0, 3, 1, 5, 2, 7), (0, 5, 2, 7, 1, 3), (0, 3, 1, 7, 2, 5), (0, 7, 2, 5, 1, 3)])

    def test_ranges_decide_the_order(self):
        # (2, 8) is inserted before (1, 4), which comes before it in sorted order.
        collection = ((0, 9), (1, 4), (2, 8))
        self.assertEqual([ring_at(collection, index) for index in range(4)],
                         [(0, 4, 1, 8, 2, 9), (0, 8, 2, 9, 1, 4), (0, 4, 1, 9, 2, 8), (0, 9, 2, 8, 1, 4)])

    def test_swings_of_equal_range_in_sorted_order(self):
        collection = ((0, 9), (1, 4), (5, 8))
        self.assertEqual([ring_at(collection, index) for index in range(4)],
                         [(0, 4, 1, 8, 5, 9), (0, 4, 1, 9, 5, 8), (0, 8, 5, 9, 1, 4), (0, 9, 5, 8, 1, 4)])

    def test_heights_at_both_limits(self):
        collection = ((-LIMIT, LIMIT), (1 - LIMIT, LIMIT - 1))
        self.assertEqual(ring_at(collection, 0), (-LIMIT, LIMIT - 1, 1 - LIMIT, LIMIT))
        self.assertEqual(ring_at(collection, 1), (-LIMIT, LIMIT, 1 - LIMIT, LIMIT - 1))

    def test_all_indexes_of_small_collections(self):
        for collection in SMALL:
            expected = rings_in_order(collection)
            found = [ring_at(collection, index) for index in range(len(expected))]
            self.assertEqual(found, expected, collection)
            self.assertEqual(len(set(found)), len(found))

    def test_rings_have_the_swings(self):
        for collection in SMALL:
            for index in range(count_rings(collection)):
                ring = ring_at(collection, index)
                self.assertEqual(swings(ring), collection)
                self.assertEqual(len(turns(ring)), 2 * len(collection))
                self.assertIs(type(ring), tuple)

    def test_first_and_last_of_large_collections(self):
        for collection, count in LARGE.items():
            for index in (0, 1, count // 3, count // 2, count - 2, count - 1):
                ring = ring_at(collection, index)
                self.assertIs(is_ring(ring), True)
                self.assertEqual((len(ring), ring[0]), (24, collection[0][0]))
                self.assertEqual(swings(ring), collection)
                self.assertEqual(ring_index(ring), index)
        inner = [height for low in range(11, 0, -1) for height in (40 - low, low)]
        self.assertEqual(ring_at(NESTED, 0), (0, *inner, 40))

    def test_all_indexes_of_large_collections_of_few_rings(self):
        for collection in (BESIDE, SHIFTED):
            self.assertEqual([ring_at(collection, index) for index in range(2048)], rings_in_order(collection))

    def test_samples(self):
        for collection in mixed_collections(60):
            count = count_rings(collection)
            for index in sorted({0, count // 7, count // 2, count - 1}):
                ring = ring_at(collection, index)
                self.assertEqual(swings(ring), collection)
                self.assertEqual(ring_index(ring), index)
            self.check_no_index(collection, count)

    def check_no_index(self, collection, value):
        with self.assertRaises(NoIndex) as caught:
            ring_at(collection, value)
        self.assertIs(caught.exception.value, value)

    def test_wrong_indexes(self):
        for collection in ((), ((0, 1),), C, *LARGE):
            count = count_rings(collection)
            for value in (-1, count, count + 1, -count, -FAR, FAR, True, False, None, "0", "", "1", [], [0], (0,),
                          {}, {"0": 0}, (), "index"):
                self.check_no_index(collection, value)

    def test_values_of_other_kinds(self):
        for value in [*OTHER_VALUES, *nested_values()]:
            if type(value) is not int or value not in range(4):
                self.check_no_index(C, value)


class RingIndexTest(unittest.TestCase):
    def test_one_place(self):
        for height in (0, 5, -LIMIT, LIMIT):
            self.assertEqual(ring_index((height,)), 0)

    def test_two_places(self):
        for ring in ((0, 5), (5, 0), (-LIMIT, LIMIT), (LIMIT, -LIMIT)):
            self.assertEqual(ring_index(ring), 0)

    def test_there_and_back_begun_at_every_place(self):
        for collection in SMALL:
            for index, ring in enumerate(rings_in_order(collection)):
                for place in range(len(ring)):
                    self.assertEqual(ring_index(ring[place:] + ring[:place]), index, (collection, index, place))

    def test_every_ring_of_different_heights_has_its_own_index(self):
        # Each ring that begins at its lowest place and turns at all places occurs once among those of its swings.
        for places in (2, 4, 6, 8):
            found = {}
            for rest in itertools.permutations(range(1, places)):
                ring = (0, *rest)
                if len(turns(ring)) == places:
                    found.setdefault(swings_of(ring), []).append((ring_index(ring), ring))
            for collection, numbered in found.items():
                self.assertEqual(sorted(numbered), list(enumerate(rings_in_order(collection))))
                self.assertEqual(len(numbered), count_rings(collection))
            self.assertEqual(sorted(found), sorted(distinct_collections(places)))

    def test_long_rings(self):
        for collection, count in LARGE.items():
            for index in (0, 1, count // 5, count - 1):
                ring = ring_at(collection, index)
                for place in range(24):
                    self.assertEqual(ring_index(ring[place:] + ring[:place]), index)

    def test_plain_rings(self):
        for collection in SMALL:
            for index in range(count_rings(collection)):
                ring = ring_at(collection, index)
                self.assertEqual(plain_ring(ring), plain_ring(ring_at(collection, 0)))
                self.assertEqual(ring_at(collection, ring_index(plain_ring(ring))), plain_ring(ring))
                self.assertEqual(len(turning_places(ring)), len(ring) if collection else 0)


if __name__ == "__main__":
    unittest.main()
