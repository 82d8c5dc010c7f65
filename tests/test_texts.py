"""Point 18: texts of rings and swings, and what is read from them."""

import itertools
import re
import unittest

from ringswings.errors import BadText
from ringswings.shapes import is_collection
from ringswings.texts import parse_ring, parse_swings, ring_text, swings_text
from tests.oracles import (LIMIT, OTHER_VALUES, all_rings, mixed_collections, mixed_rings, nested_values, number_texts,
                           swings)

NO_TEXTS = [value for value in [*OTHER_VALUES, *nested_values(), (0, 5), [0, 5], ((0, 7),), (), ("0", "5"), b"0 5"]
            if not isinstance(value, str)]
# None of these is the text of a number in a text that is read.
NO_NUMBERS = ("", "00", "05", "-05", "007", "+5", "+0", "-0", "-00", "--5", "-", "+", "5-", "1_0", "_1", "1_", "0x5",
              "5.0", "5.", ".5", "1e3", "five", "none", "None", "True", "5,", "(5)", "\n", "5\n", "\n5", "5\n5", "0\n",
              "12345678901", "-12345678901", "00000000005", "99999999999", "9" * 30, "9" * 2000, "0" * 2000, "-" * 2000,
              "5..7", "..", "\"5\"", "5-3", "0b1", "5j", "1'0", "\u0665", "\u00b2", "1\u0665", "\u22125")
# Numbers of ten digits that are no heights.
NO_HEIGHTS = ("1000000001", "-1000000001", "9999999999", "-9999999999", "2000000000")
HEIGHTS = {"0": 0, "5": 5, "-5": -5, "10": 10, "-10": -10, "100": 100, "999999999": 999999999, "1000000000": LIMIT,
           "-1000000000": -LIMIT, "-1": -1, "123456789": 123456789}


class TextCase(unittest.TestCase):
    def check_bad(self, parse, text, index):
        with self.assertRaises(BadText) as caught:
            parse(text)
        self.assertEqual(repr(caught.exception.index), repr(index), repr(text))


class RingTextTest(unittest.TestCase):
    def test_rings(self):
        self.assertEqual(ring_text((0,)), "0")
        self.assertEqual(ring_text((-1,)), "-1")
        self.assertEqual(ring_text((0, 5, 2, 7)), "0 5 2 7")
        self.assertEqual(ring_text((-LIMIT, LIMIT)), "-1000000000 1000000000")
        self.assertEqual(ring_text((0,) * 24), "0 " * 23 + "0")
        self.assertEqual(ring_text((10, -10, 100)), "10 -10 100")

    def test_against_the_words(self):
        for ring in [*all_rings(3, (-11, -1, 0, 7, 10)), *mixed_rings(60)]:
            self.assertEqual(ring_text(ring), " ".join(number_texts(ring)))


class SwingsTextTest(unittest.TestCase):
    def test_swings(self):
        self.assertEqual(swings_text(()), "none")
        self.assertEqual(swings_text(((0, 7),)), "0..7")
        self.assertEqual(swings_text(((-7, -3),)), "-7..-3")
        self.assertEqual(swings_text(((-LIMIT, LIMIT), (-1, 0))), "-1000000000..1000000000 -1..0")
        self.assertEqual(swings_text(((0, 1),) * 12), "0..1 " * 11 + "0..1")

    def test_swings_that_are_no_collection(self):
        self.assertEqual(swings_text(((0, 3), (1, 7))), "0..3 1..7")
        self.assertEqual(swings_text(((5, 7), (0, 3))), "5..7 0..3")
        self.assertEqual(swings_text(((0, 1),) * 13), "0..1 " * 12 + "0..1")

    def test_against_the_words(self):
        for ring in mixed_rings(60):
            words = [".".join([low, "", high]) for low, high in
                     [tuple(number_texts(swing)) for swing in swings(ring)]]
            self.assertEqual(swings_text(swings(ring)), " ".join(words) or "none")


class ParseRingTest(TextCase):
    def test_rings(self):
        for word, height in HEIGHTS.items():
            self.assertEqual(parse_ring(word), (height,))
            self.assertEqual(parse_ring("3 " + word), (3, height))
            self.assertEqual(parse_ring(word + " 3"), (height, 3))
        self.assertEqual(parse_ring("0 -5 2"), (0, -5, 2))

    def test_there_and_back(self):
        for ring in [*all_rings(3, (-10, -1, 0, 1)), *mixed_rings(60), (LIMIT,) * 24, (-LIMIT, LIMIT) * 12]:
            found = parse_ring(ring_text(ring))
            self.assertEqual(found, ring)
            self.assertIs(type(found), tuple)
            self.assertTrue(all(type(height) is int for height in found))

    def test_not_a_text(self):
        for value in NO_TEXTS:
            self.check_bad(parse_ring, value, None)

    def test_wrong_words(self):
        for word in NO_NUMBERS + NO_HEIGHTS:
            self.check_bad(parse_ring, word, 0)
            self.check_bad(parse_ring, "3 " + word, 1)
            self.check_bad(parse_ring, word + " 3", 0)
            self.check_bad(parse_ring, "0 -5 2 " + word + " 1 x", 3)
            self.check_bad(parse_ring, "0 " * 23 + word, 23)

    def test_spaces(self):
        self.check_bad(parse_ring, "", 0)
        self.check_bad(parse_ring, " ", 0)
        self.check_bad(parse_ring, " 0 5", 0)
        self.check_bad(parse_ring, "0 5 ", 2)
        self.check_bad(parse_ring, "0  5", 1)
        self.check_bad(parse_ring, "0 5  ", 2)
        self.check_bad(parse_ring, "0   5", 1)
        self.check_bad(parse_ring, "0\n5", 0)
        self.check_bad(parse_ring, "0 \n5", 1)
        self.check_bad(parse_ring, "0 5\n", 1)
        self.check_bad(parse_ring, "0 5 \n", 2)
        self.check_bad(parse_ring, "\n0 5", 0)
        self.check_bad(parse_ring, "- 5", 0)
        self.check_bad(parse_ring, "5 -", 1)
        self.check_bad(parse_ring, " " * 2000, 0)

    def test_many_words(self):
        self.assertEqual(parse_ring("7 " * 23 + "7"), (7,) * 24)
        self.check_bad(parse_ring, "7 " * 24 + "7", 24)
        self.check_bad(parse_ring, "7 " * 24 + "x", 24)
        self.check_bad(parse_ring, "7 " * 24, 24)
        self.check_bad(parse_ring, "7 " * 23, 23)
        self.check_bad(parse_ring, "7 " * 900 + "x", 24)
        self.check_bad(parse_ring, "7 " * 20 + "x " + "7 " * 20, 20)

    def test_numbers_of_many_digits(self):
        self.assertEqual(parse_ring("1000000000 -1000000000"), (LIMIT, -LIMIT))
        for digits in ("10000000000", "-10000000000", "0000000001", "00000000001", "1000000001", "9" * 5000):
            self.check_bad(parse_ring, "1 " + digits, 1)

    def test_all_short_texts(self):
        for length in range(6):
            for signs in itertools.product("0-1 " if length > 4 else "0-1 +_.", repeat=length):
                text = "".join(signs)
                words = text.split(" ")
                wrong = [at for at, word in enumerate(words) if not re.fullmatch("0|-?[1-9][0-9]*", word)]
                if wrong:
                    self.check_bad(parse_ring, text, wrong[0])
                else:
                    self.assertEqual(parse_ring(text), tuple(map(int, words)))
                    self.assertEqual(ring_text(parse_ring(text)), text)


class ParseSwingsTest(TextCase):
    def test_none(self):
        self.assertEqual(parse_swings("none"), ())
        for text, index in (("none none", 0), ("none 0..7", 0), ("0..7 none", 1), (" none", 0), ("none ", 0),
                            ("None", 0), ("none\n", 0), ("NONE", 0), ("", 0), ("0..7 1..3 none", 2), ("nonenone", 0)):
            self.check_bad(parse_swings, text, index)

    def test_collections(self):
        self.assertEqual(parse_swings("0..7"), ((0, 7),))
        self.assertEqual(parse_swings("0..7 1..3 2..5"), ((0, 7), (1, 3), (2, 5)))
        self.assertEqual(parse_swings("-7..-3"), ((-7, -3),))
        self.assertEqual(parse_swings("-7..0 -5..-3"), ((-7, 0), (-5, -3)))
        self.assertEqual(parse_swings("-1000000000..1000000000"), ((-LIMIT, LIMIT),))
        self.assertEqual(parse_swings("0..3 0..7"), ((0, 3), (0, 7)))
        self.assertEqual(parse_swings("0..7 0..7 3..7"), ((0, 7), (0, 7), (3, 7)))

    def test_there_and_back(self):
        rings = [*all_rings(5, (-1, 0, 1)), *mixed_rings(60), (-LIMIT, LIMIT) * 12]
        for collection in [*map(swings, rings), *mixed_collections(40), ()]:
            found = parse_swings(swings_text(collection))
            self.assertEqual(found, collection)
            self.assertTrue(all(type(part) is tuple for part in (found, *found)))

    def test_not_a_text(self):
        for value in NO_TEXTS:
            self.check_bad(parse_swings, value, None)

    def test_wrong_ends(self):
        for word in NO_NUMBERS + NO_HEIGHTS:
            for wrong in (word + "..7", "-7.." + word, word + ".." + word):
                # A word with a line feed is one word all the same; only spaces part words.
                self.check_bad(parse_swings, wrong, 0)
                self.check_bad(parse_swings, "-9..9 " + wrong, 1)
                self.check_bad(parse_swings, wrong + " 0..7", 0)

    def test_wrong_words(self):
        for word in ("", "7", "0.7", "0...7", "0....7", "0..", "..7", "..", "0..7..9", "0..7..", "..0..7", "0 ..7",
                     "7..0", "0..0", "-3..-3", "-3..-7", "0..-1", "0-7", "0:7", "(0, 7)", "0..7\n", "\n0..7", "0\n..7",
                     "0..7,", "0..1000000001", "-1000000001..0", "0..10000000000", "x" * 2000, "." * 2000):
            self.check_bad(parse_swings, word, 0)
            self.check_bad(parse_swings, "-9..9 " + word, 1)
            self.check_bad(parse_swings, "-9..9 -8..8 " + word + " x", 2)

    def test_spaces(self):
        self.check_bad(parse_swings, " ", 0)
        self.check_bad(parse_swings, " 0..7", 0)
        self.check_bad(parse_swings, "0..7 ", 1)
        self.check_bad(parse_swings, "0..7  1..3", 1)
        self.check_bad(parse_swings, "0..7\n1..3", 0)
        self.check_bad(parse_swings, "0..7 1..3\n", 1)

    def test_wrong_order(self):
        self.check_bad(parse_swings, "1..3 0..7", 1)
        self.check_bad(parse_swings, "0..7 0..3", 1)
        self.check_bad(parse_swings, "0..7 2..5 1..3", 2)
        self.check_bad(parse_swings, "0..7 1..5 1..3 x", 2)
        self.check_bad(parse_swings, "0..9 10..12 2..3", 2)
        self.check_bad(parse_swings, "0..7 -1..9", 1)

    def test_no_swing_contains_all_others(self):
        self.check_bad(parse_swings, "0..3 1..7", 2)
        self.check_bad(parse_swings, "0..1 2..3", 2)
        self.check_bad(parse_swings, "0..5 0..5 1..6", 3)
        self.check_bad(parse_swings, "0..1 " * 11 + "1..2", 12)

    def test_wrong_words_come_before_the_whole(self):
        self.check_bad(parse_swings, "0..3 1..7 x", 2)
        self.check_bad(parse_swings, "0..3 1..7 0..9", 2)
        self.check_bad(parse_swings, "0..3 1..7 ", 2)

    def test_many_words(self):
        self.assertEqual(parse_swings("0..1 " * 11 + "0..1"), ((0, 1),) * 12)
        self.check_bad(parse_swings, "0..1 " * 12 + "0..1", 12)
        self.check_bad(parse_swings, "0..1 " * 12 + "x", 12)
        self.check_bad(parse_swings, "0..1 " * 12, 12)
        self.check_bad(parse_swings, "0..1 " * 11, 11)
        self.check_bad(parse_swings, "0..1 " * 11 + "1..2 0..1", 12)
        self.check_bad(parse_swings, "0..1 " * 399 + "0..1", 12)
        self.check_bad(parse_swings, "0..1 " * 11 + "x " + "0..1 " * 11, 11)

    def test_all_texts_of_some_words(self):
        known = {"0..2": (0, 2), "0..1": (0, 1), "1..2": (1, 2), "-1..3": (-1, 3), "2..0": None, "": None}
        for count in range(1, 5):
            for words in itertools.product(known, repeat=count):
                pairs = [known[word] for word in words]
                wrong = [at for at, pair in enumerate(pairs)
                         if pair is None or at > 0 and pairs[at - 1] is not None and pair < pairs[at - 1]]
                if wrong:
                    self.check_bad(parse_swings, " ".join(words), wrong[0])
                elif is_collection(tuple(pairs)):
                    self.assertEqual(parse_swings(" ".join(words)), tuple(pairs))
                else:
                    self.check_bad(parse_swings, " ".join(words), count)


if __name__ == "__main__":
    unittest.main()
