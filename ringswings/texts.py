"""Texts of numbers, rings and swings, and what is read from such texts."""

from ringswings.bounds import MAX_LENGTH
from ringswings.errors import BadText
from ringswings.kinds import is_height, is_swing
from ringswings.shapes import is_collection

# How many digits a number may have in a text that is read.
MAX_DIGITS = 10

# The text of no swings.
NO_SWINGS = "none"


def ring_text(ring):
    """Return the text of a ring."""
    return " ".join([str(height) for height in ring])


def swings_text(swings):
    """Return the text of a tuple of swings."""
    if not swings:
        return NO_SWINGS
    return " ".join([f"{low}..{high}" for low, high in swings])


def parse_ring(text):
    """Return the ring whose text any value is, or raise BadText."""
    heights = []
    for index, word in enumerate(words_of(text)):
        if index == MAX_LENGTH or not is_number_text(word) or not is_height(int(word)):
            raise BadText(index)
        heights.append(int(word))
    return tuple(heights)


def parse_swings(text):
    """Return the collection whose text any value is, or raise BadText."""
    words = words_of(text)
    if text == NO_SWINGS:
        return ()
    swings = []
    for index, word in enumerate(words):
        swing = read_swing(word)
        if index == MAX_LENGTH // 2 or swing is None or (swings and swing < swings[-1]):
            raise BadText(index)
        swings.append(swing)
    if not is_collection(tuple(swings)):
        raise BadText(len(words))
    return tuple(swings)


def words_of(text):
    """Return what stands between single spaces in a text, or raise BadText if any value is not a text."""
    if not isinstance(text, str):
        raise BadText(None)
    return text.split(" ")


def is_number_text(word):
    """Return whether the word is the text of a number, short enough to be read."""
    digits = word[1:] if word.startswith("-") else word
    if len(digits) > MAX_DIGITS or not digits.isascii() or not digits.isdigit():
        return False
    return word == "0" or not digits.startswith("0")


def read_swing(word):
    """Return the swing whose text the word is, or None if it is not the text of a swing."""
    ends = word.split("..")
    if len(ends) != 2 or not all([is_number_text(end) for end in ends]):
        return None
    swing = (int(ends[0]), int(ends[1]))
    return swing if is_swing(swing) else None
