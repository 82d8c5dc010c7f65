"""Boards: rings that can be edited and undone, and calm boards, which refuse edits that make them restless."""

from ringswings.bounds import BATCH, MAX_EDITS, MAX_LENGTH
from ringswings.changing import insert_height, remove_place, set_height
from ringswings.errors import (
    BadEdit, BadEdits, BadHeight, BadRing, BadTolerance, BadTurns, NoPlace, NothingToUndo, NoVersion, Rejected,
    Restless, RingError, TooManyEdits,
)
from ringswings.kinds import is_height, is_number, is_tolerance
from ringswings.rings import ring_error, turning_places
from ringswings.smoothing import find_zigzag, lazy_ring, least_movement, least_turns
from ringswings.swings import swings_of

# How many values each edit takes.
EDIT_VALUES = {"put": 2, "insert": 2, "remove": 1}


class Board:
    """A ring and the edits that stand."""

    def __init__(self, ring):
        error = ring_error(ring)
        if error is not None:
            raise BadRing(error)
        # The ring of each version is kept, so that versions and undos need no calculation.
        self.states = [ring]
        self.standing = []
        # Only calm boards have limits: (tolerance, turns).
        self.limits = None

    def __len__(self):
        return len(self.standing)

    def __str__(self):
        return f"{len(self.ring())} places, {len(turning_places(self.ring()))} turns, {len(self.standing)} edits"

    def __eq__(self, other):
        return isinstance(other, Board) and self.states[-1] == other.states[-1] and self.limits == other.limits

    def put(self, place, height):
        """Set another height at the place and return the new version."""
        self.check_room()
        ring = self.ring()
        check_place(place, len(ring))
        check_height(height)
        return self.keep(("put", place, height), set_height(ring, place, height))

    def insert(self, place, height):
        """Put a further height before the place, or at the end, and return the new version."""
        self.check_room()
        ring = self.ring()
        check_place(place, len(ring) + 1)
        check_height(height)
        return self.keep(("insert", place, height), insert_height(ring, place, height))

    def remove(self, place):
        """Remove the place and return the new version."""
        self.check_room()
        ring = self.ring()
        check_place(place, len(ring))
        return self.keep(("remove", place), remove_place(ring, place))

    def check_room(self):
        """Raise TooManyEdits if no further edit can stand."""
        if len(self.standing) >= MAX_EDITS:
            raise TooManyEdits()

    def keep(self, edit, ring):
        """Let an edit stand that leads to the ring, and return the new version."""
        self.standing.append(edit)
        self.states.append(ring)
        return len(self.standing)

    def undo(self):
        """Remove the last edit that stands and return the new version."""
        if not self.standing:
            raise NothingToUndo()
        return self.go_back(len(self.standing) - 1)

    def go_back(self, version):
        """Remove all edits after the version and return the version."""
        self.standing = self.standing[:version]
        self.states = self.states[:version + 1]
        return version

    def attempt(self, edits):
        """Do all edits of a batch, or none of them, and return the new version."""
        check_batch(edits)
        before = len(self.standing)
        for index, edit in enumerate(edits):
            try:
                self.do_edit(edit)
            except (RingError, NoPlace) as cause:
                self.go_back(before)
                raise Rejected(index) from cause
        return len(self.standing)

    def do_edit(self, edit):
        """Do an edit that is given as a tuple of its name and its values."""
        if edit[0] == "put":
            self.put(edit[1], edit[2])
        elif edit[0] == "insert":
            self.insert(edit[1], edit[2])
        else:
            self.remove(edit[1])

    def ring(self, *, version=None):
        """Return the ring of the version."""
        if version is None:
            return self.states[-1]
        if not is_number(version) or not 0 <= version <= len(self.standing):
            raise NoVersion(version)
        return self.states[version]

    def swings(self, *, version=None):
        """Return the swings of the ring of the version."""
        return swings_of(self.ring(version=version))

    def movement(self, *, tolerance=0, version=None):
        """Return the least movement for the tolerance."""
        ring = self.ring(version=version)
        check_tolerance(tolerance)
        return least_movement(ring, tolerance)

    def turns(self, *, tolerance=0, version=None):
        """Return the least number of turns for the tolerance."""
        ring = self.ring(version=version)
        check_tolerance(tolerance)
        return least_turns(ring, tolerance)

    def smooth(self, tolerance):
        """Return the lazy ring of the present ring and a zigzag that shows that no ring has less."""
        check_tolerance(tolerance)
        ring = self.ring()
        return (lazy_ring(ring, tolerance), find_zigzag(ring, tolerance))

    def edits(self):
        """Return the tuple of the edits that stand."""
        return tuple(self.standing)


class CalmBoard(Board):
    """A board whose ring always has at most so many least turns for a tolerance."""

    def __init__(self, ring, tolerance, turns):
        super().__init__(ring)
        check_tolerance(tolerance)
        if not is_number(turns) or not 0 <= turns <= MAX_LENGTH:
            raise BadTurns(turns)
        self.limits = (tolerance, turns)
        self.check_calm(ring)

    def bounds(self):
        """Return (tolerance, turns)."""
        return self.limits

    def keep(self, edit, ring):
        """Let an edit stand if the ring that it leads to is calm."""
        self.check_calm(ring)
        return super().keep(edit, ring)

    def check_calm(self, ring):
        """Raise Restless if the ring has too many least turns."""
        tolerance, allowed = self.limits
        number = least_turns(ring, tolerance)
        if number > allowed:
            raise Restless(number)


def check_place(value, count):
    """Raise NoPlace if any value is not one of so many places."""
    if not is_number(value) or not 0 <= value < count:
        raise NoPlace(value)


def check_height(value):
    """Raise BadHeight if any value is not a height."""
    if not is_height(value):
        raise BadHeight(value)


def check_tolerance(value):
    """Raise BadTolerance if any value is not a tolerance."""
    if not is_tolerance(value):
        raise BadTolerance(value)


def check_batch(value):
    """Raise BadEdits if any value is not a batch, and BadEdit if one of its items is not an edit."""
    if not isinstance(value, (list, tuple)) or len(value) > BATCH:
        raise BadEdits()
    for index, item in enumerate(value):
        if not is_edit(item):
            raise BadEdit(index)


def is_edit(value):
    """Return whether any value is a tuple of the name of an edit and as many values as it takes."""
    if not isinstance(value, tuple) or len(value) == 0 or not isinstance(value[0], str):
        return False
    return value[0] in EDIT_VALUES and len(value) == 1 + EDIT_VALUES[value[0]]
