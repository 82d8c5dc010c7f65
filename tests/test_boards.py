"""Points 15 to 17: boards and calm boards; guarantee (g)."""

import itertools
import random
import unittest
import unittest.mock

from ringswings import errors
from ringswings.boards import Board, CalmBoard
from ringswings.smoothing import find_zigzag, lazy_ring, smoothing_holds
from tests.oracles import (LIMIT, OTHER_VALUES, least_by_swings, mixed_rings, nested_values, swings, tolerances, turns)

R = (0, 5, 2, 7, 1, 3)
LONG = tuple(range(24))
FAR = 10 ** 30 - 1
NO_NUMBERS = [value for value in [*OTHER_VALUES, *nested_values(), (), (0,), (0, 1)] if type(value) is not int]
NO_HEIGHTS = [*NO_NUMBERS, LIMIT + 1, -LIMIT - 1, FAR, -FAR]
NO_TOLERANCES = [*NO_NUMBERS, -1, LIMIT + 1, FAR, -FAR]


def edited(board, count):
    """The board after so many edits more, which change the height of place 0 again and again."""
    for number in range(count):
        board.put(0, number % 7)
    return board


def picture(board):
    """All that can be seen of a board."""
    versions = [(board.ring(version=at), board.swings(version=at)) for at in range(len(board) + 1)]
    return (str(board), len(board), board.edits(), versions, board.ring(), board.swings(), board.movement(),
            board.turns(), board.bounds() if isinstance(board, CalmBoard) else None)


class BoardCase(unittest.TestCase):
    def check_raises(self, error, function, *arguments, **named):
        """The call raises an error of the class with the fields of the given one, which are the very values."""
        with self.assertRaises(type(error)) as caught:
            function(*arguments, **named)
        self.assertIs(type(caught.exception), type(error))
        self.assertEqual(repr(vars(caught.exception)), repr(vars(error)))
        for name, value in vars(error).items():
            if not isinstance(value, int):
                self.assertEqual(getattr(caught.exception, name), value)

    def check_refused(self, board, error, name, *arguments, **named):
        before = picture(board)
        self.check_raises(error, getattr(board, name), *arguments, **named)
        self.assertEqual(picture(board), before)


class NewBoardTest(BoardCase):
    def test_rings(self):
        for ring in ((0,), (LIMIT,), (-LIMIT, LIMIT) * 12, (7,) * 24, R):
            board = Board(ring)
            self.assertEqual(board.ring(), ring)
            self.assertEqual(len(board), 0)
            self.assertEqual(board.edits(), ())

    def test_bad_rings(self):
        for make in (Board, lambda ring: CalmBoard(ring, 0, 24), lambda ring: CalmBoard(ring, None, None)):
            for value in [[0, 5], None, True, 0, "0 5", {}, {"0": 5}]:
                self.check_raises(errors.BadRing((None, "tuple")), make, value)
            for value in [(), (0,) * 25, (None,) * 25]:
                self.check_raises(errors.BadRing((None, "length")), make, value)
            for item in NO_HEIGHTS:
                self.check_raises(errors.BadRing((1, "height")), make, (0, item, None))

    def test_text_of_a_new_board(self):
        self.assertEqual(str(Board((0,))), "1 places, 0 turns, 0 edits")
        self.assertEqual(str(Board((4, 4))), "2 places, 0 turns, 0 edits")
        self.assertEqual(str(Board((0, 1) * 12)), "24 places, 24 turns, 0 edits")
        self.assertEqual(str(Board((0, 5, 5, 2, 7, 3))), "6 places, 4 turns, 0 edits")


class EditTest(BoardCase):
    def test_put(self):
        board = Board((0, 5, 2))
        self.assertEqual([board.put(0, LIMIT), board.put(2, -LIMIT), board.put(1, 5)], [1, 2, 3])
        self.assertEqual(board.ring(), (LIMIT, 5, -LIMIT))
        self.assertEqual(board.edits(), (("put", 0, LIMIT), ("put", 2, -LIMIT), ("put", 1, 5)))
        self.assertEqual(str(board), "3 places, 2 turns, 3 edits")

    def test_insert(self):
        board = Board((0, 5, 2))
        self.assertEqual([board.insert(0, LIMIT), board.insert(4, -LIMIT), board.insert(1, 7)], [1, 2, 3])
        self.assertEqual(board.ring(), (LIMIT, 7, 0, 5, 2, -LIMIT))
        self.assertEqual(board.edits(), (("insert", 0, LIMIT), ("insert", 4, -LIMIT), ("insert", 1, 7)))

    def test_remove(self):
        board = Board((0, 5, 2, 7))
        self.assertEqual([board.remove(3), board.remove(0), board.remove(1)], [1, 2, 3])
        self.assertEqual(board.ring(), (5,))
        self.assertEqual(board.edits(), (("remove", 3), ("remove", 0), ("remove", 1)))
        self.assertEqual(str(board), "1 places, 0 turns, 3 edits")

    def test_no_place(self):
        for ring in ((0,), R, LONG):
            board = Board(ring)
            count = len(ring)
            for value in [*NO_NUMBERS, -1, -count, count + 1, FAR, -FAR]:
                self.check_refused(board, errors.NoPlace(value), "put", value, 1)
                self.check_refused(board, errors.NoPlace(value), "insert", value, 1)
                self.check_refused(board, errors.NoPlace(value), "remove", value)
            self.check_refused(board, errors.NoPlace(count), "put", count, 1)
            self.check_refused(board, errors.NoPlace(count), "remove", count)

    def test_the_error_has_the_very_value(self):
        value = [True]
        with self.assertRaises(errors.NoPlace) as caught:
            Board(R).put(value, 1)
        self.assertIs(caught.exception.value, value)

    def test_bad_height(self):
        board = Board(R)
        for value in NO_HEIGHTS:
            self.check_refused(board, errors.BadHeight(value), "put", 5, value)
            self.check_refused(board, errors.BadHeight(value), "insert", 6, value)

    def test_too_long_and_last_place(self):
        board = Board(LONG[:23])
        board.insert(23, 23)
        self.assertEqual(board.ring(), LONG)
        for place in (0, 12, 24):
            self.check_refused(board, errors.TooLong(24), "insert", place, 0)
        board = Board((0, 5))
        board.remove(0)
        self.check_refused(board, errors.LastPlace(), "remove", 0)

    def test_sixty_edits(self):
        board = edited(Board(R), 59)
        self.assertEqual(board.put(1, 9), 60)
        for name, arguments in (("put", (0, 1)), ("insert", (0, 1)), ("remove", (0,))):
            self.check_refused(board, errors.TooManyEdits(), name, *arguments)
        self.assertEqual(len(board.edits()), 60)
        self.assertEqual(board.undo(), 59)
        self.assertEqual(board.remove(0), 60)
        self.check_refused(board, errors.TooManyEdits(), "put", 0, 1)

    def test_edits_that_change_nothing_count(self):
        board = Board((0, 5))
        self.assertEqual([board.put(0, 0), board.put(0, 0)], [1, 2])
        self.assertEqual((board.ring(), len(board)), ((0, 5), 2))

    def test_order_of_errors(self):
        full = edited(Board(LONG), 60)
        lone = edited(Board((3,)), 60)
        for place, height in itertools.product((0, 24, None, True), (0, True, LIMIT + 1)):
            self.check_refused(full, errors.TooManyEdits(), "put", place, height)
            self.check_refused(full, errors.TooManyEdits(), "insert", place, height)
            self.check_refused(lone, errors.TooManyEdits(), "remove", place)
        for height in (0, None, True, LIMIT + 1):
            self.check_refused(Board(LONG), errors.NoPlace(24), "put", 24, height)
            self.check_refused(Board(LONG), errors.NoPlace(25), "insert", 25, height)
        self.check_refused(Board(LONG), errors.BadHeight(None), "insert", 24, None)
        self.check_refused(Board((3,)), errors.NoPlace(1), "remove", 1)
        self.check_refused(Board((3,)), errors.NoPlace(False), "remove", False)


class UndoTest(BoardCase):
    def test_nothing_to_undo(self):
        self.check_refused(Board(R), errors.NothingToUndo(), "undo")
        self.check_refused(CalmBoard(R, 0, 6), errors.NothingToUndo(), "undo")

    def test_down_to_the_first_state(self):
        board = Board((0, 5))
        states = [picture(board)]
        for step in (lambda: board.insert(1, 9), lambda: board.put(0, 4), lambda: board.remove(2),
                     lambda: board.attempt([("put", 1, 8), ("insert", 0, 0)])):
            step()
            states.append(picture(board))
        # The two edits of the batch are undone one after the other.
        self.assertEqual(board.undo(), 4)
        self.assertEqual(board.ring(), (4, 8))
        for version in (3, 2, 1, 0):
            self.assertEqual(board.undo(), version)
            self.assertEqual(picture(board), states[version])
        self.check_refused(board, errors.NothingToUndo(), "undo")
        self.assertEqual(board.put(0, 1), 1)

    def test_sixty_undos(self):
        board = edited(Board(R), 60)
        self.assertEqual([board.undo() for _ in range(60)], list(range(59, -1, -1)))
        self.assertEqual(picture(board), picture(Board(R)))
        self.check_refused(board, errors.NothingToUndo(), "undo")

    def test_a_new_edit_after_an_undo_takes_its_place(self):
        board = Board((0, 5))
        board.put(0, 1)
        board.undo()
        board.put(1, 7)
        self.assertEqual(board.edits(), (("put", 1, 7),))
        self.assertEqual(board.ring(version=1), (0, 7))
        self.assertEqual(board.ring(version=0), (0, 5))


class AttemptTest(BoardCase):
    def test_done(self):
        board = Board((0, 5))
        self.assertEqual(board.attempt([("put", 0, 1), ("insert", 2, 9), ("remove", 1)]), 3)
        self.assertEqual(board.ring(), (1, 9))
        self.assertEqual(board.edits(), (("put", 0, 1), ("insert", 2, 9), ("remove", 1)))
        self.assertEqual(board.attempt((("put", 0, 2),)), 4)
        self.assertEqual(board.ring(version=3), (1, 9))

    def test_empty_batch(self):
        for board in (Board(R), edited(Board(R), 3), edited(Board(R), 60)):
            before = picture(board)
            self.assertEqual(board.attempt([]), len(board))
            self.assertEqual(board.attempt(()), len(board))
            self.assertEqual(picture(board), before)

    def test_twenty_and_twentyone(self):
        batch = [("put", 0, number) for number in range(20)]
        board = Board(R)
        self.assertEqual(board.attempt(batch), 20)
        self.assertEqual(board.edits(), tuple(batch))
        self.assertEqual(board.attempt(tuple(batch)), 40)
        self.check_refused(board, errors.BadEdits(), "attempt", batch + batch[:1])
        self.check_refused(board, errors.BadEdits(), "attempt", tuple(batch + batch[:1]))
        self.check_refused(board, errors.BadEdits(), "attempt", [None] * 21)

    def test_bad_edits(self):
        board = edited(Board(R), 2)
        for value in NO_NUMBERS + [0, 1, FAR]:
            if not isinstance(value, (list, tuple)) or len(value) > 20:
                self.check_refused(board, errors.BadEdits(), "attempt", value)

    def test_bad_edit(self):
        board = edited(Board(R), 2)
        bad = [("put",), ("put", 0), ("put", 0, 1, 2), ("insert", 0), ("insert", 0, 1, 2), ("remove",),
               ("remove", 0, 1), ("undo",), ("attempt", []), ("Put", 0, 1), ("set", 0, 1), ("", 0, 1), ["put", 0, 1],
               ("keep", ("put", 0, 1), (0,)), ("put ", 0, 1), (0, 0, 1), (None, 0), ((), 0), ([], 0), ({}, 0),
               (["put"], 0, 1), (("put",), 0, 1), ("put", (0, 1)), "put", "remove", ("r", "e"), ("ring",), (), [],
               {"put": 0}, True, 0, None, "remove 0", (True, 0, 1)] + [value for value in NO_NUMBERS]
        for item in bad:
            for index in (0, 1, 19):
                batch = [("put", 0, 1)] * 19
                batch.insert(index, item)
                self.check_refused(board, errors.BadEdit(index), "attempt", batch)
                self.check_refused(board, errors.BadEdit(index), "attempt", tuple(batch))
        self.check_refused(board, errors.BadEdit(1), "attempt", [("put", 0, 1), None, ("put",)])

    def test_bad_edit_comes_before_any_edit_is_done(self):
        for board in (Board(R), edited(Board(R), 60)):
            self.check_refused(board, errors.BadEdit(1), "attempt", [("remove", 99), ("put", 0)])

    def test_rejected_at_each_index(self):
        wrong = [("put", 24, 0), ("put", True, 0), ("put", [], {}), ("put", 0, None), ("put", 0, LIMIT + 1),
                 ("insert", 99, 0), ("insert", 0, True), ("insert", None, None), ("remove", -1), ("remove", "0"),
                 ("remove", ("remove", 0)), ("put", "x" * 2000, 0)]
        board = edited(Board(R), 2)
        for item in wrong:
            for index in range(20):
                batch = [("put", 0, number) for number in range(19)]
                batch.insert(index, item)
                self.check_refused(board, errors.Rejected(index), "attempt", batch)

    def test_rejected_in_the_course_of_a_batch(self):
        self.check_refused(Board((0, 5)), errors.Rejected(2), "attempt", [("remove", 0), ("put", 0, 1), ("remove", 0)])
        self.check_refused(Board(LONG[:23]), errors.Rejected(1), "attempt", [("insert", 0, 0), ("insert", 0, 0)])
        self.check_refused(Board((0, 5)), errors.Rejected(1), "attempt", [("remove", 1), ("put", 1, 0)])
        board = Board((0, 5))
        self.assertEqual(board.attempt([("insert", 2, 7), ("put", 2, 8)]), 2)

    def test_too_many_edits_in_a_batch(self):
        batch = [("put", 0, 1)] * 20
        for count in range(41, 61):
            self.check_refused(edited(Board(R), count), errors.Rejected(60 - count), "attempt", batch)
        board = edited(Board(R), 40)
        self.assertEqual(board.attempt(batch), 60)
        self.check_refused(board, errors.Rejected(0), "attempt", [("put", None, None)])
        self.check_refused(board, errors.Rejected(0), "attempt", batch)

    def test_after_a_rejection(self):
        board = Board((0, 5))
        self.check_refused(board, errors.Rejected(1), "attempt", [("put", 0, 1), ("remove", 2)])
        self.check_refused(board, errors.NothingToUndo(), "undo")
        self.assertEqual(board.attempt([("put", 0, 1), ("remove", 1)]), 2)

    def test_arguments_are_left_alone(self):
        batch = [("put", 0, 1), ("insert", 0, 2)]
        board = Board(R)
        board.attempt(batch)
        self.assertEqual(batch, [("put", 0, 1), ("insert", 0, 2)])
        batch.append(("remove", 0))
        batch[0] = None
        self.assertEqual(board.edits(), (("put", 0, 1), ("insert", 0, 2)))
        self.assertEqual(board.ring(), (2, 1) + R[1:])
        wrong = [("put", 0, 1), ("put", [3], {"a": [4]})]
        with self.assertRaises(errors.Rejected):
            board.attempt(wrong)
        self.assertEqual(wrong, [("put", 0, 1), ("put", [3], {"a": [4]})])


class QueryTest(BoardCase):
    def test_every_version(self):
        board, rings = Board((0, 5, 2, 7)), [(0, 5, 2, 7)]
        source = random.Random(5)
        while len(board) < 60:
            ring = rings[-1]
            place, height = source.randrange(len(ring)), source.choice((-LIMIT, 0, 1, 3, 8, LIMIT))
            if len(board) % 3 == 0 and len(ring) < 24:
                board.insert(place, height)
                rings.append(ring[:place] + (height,) + ring[place:])
            elif len(board) % 7 == 1:
                board.remove(place)
                rings.append(ring[:place] + ring[place + 1:])
            else:
                board.put(place, height)
                rings.append(ring[:place] + (height,) + ring[place + 1:])
        for version, ring in enumerate(rings):
            self.assertEqual(board.ring(version=version), ring)
            self.assertEqual(board.swings(version=version), swings(ring))
            for tolerance in tolerances(ring)[::3]:
                least = least_by_swings(ring, tolerance)
                self.assertEqual(board.movement(tolerance=tolerance, version=version), least[0])
                self.assertEqual(board.turns(version=version, tolerance=tolerance), least[1])
            self.assertEqual(board.movement(version=version), least_by_swings(ring, 0)[0])
            self.assertEqual(board.turns(version=version), len(turns(ring)))
        for query in (board.ring, board.swings, board.movement, board.turns):
            self.assertEqual(query(), query(version=None))
            self.assertEqual(query(), query(version=60))

    def test_no_version(self):
        for board in (Board(R), edited(Board(R), 2), CalmBoard(R, 0, 24)):
            wrong = [*NO_NUMBERS, -1, len(board) + 1, FAR, -FAR, "0", (0,), [0], True, False]
            for value in [value for value in wrong if value is not None]:
                for name in ("ring", "swings", "movement", "turns"):
                    self.check_refused(board, errors.NoVersion(value), name, version=value)
                for name in ("movement", "turns"):
                    self.check_refused(board, errors.NoVersion(value), name, version=value, tolerance=None)

    def test_versions_that_were_undone(self):
        board = edited(Board(R), 3)
        self.assertEqual(board.ring(version=3), (2,) + R[1:])
        board.undo()
        self.check_refused(board, errors.NoVersion(3), "ring", version=3)
        self.assertEqual(board.ring(version=2), (1,) + R[1:])

    def test_tolerances(self):
        for ring in [R, (0,), (-LIMIT, LIMIT) * 12, (4, 4)]:
            board = Board(ring)
            for tolerance in tolerances(ring):
                least = least_by_swings(ring, tolerance)
                self.assertEqual((board.movement(tolerance=tolerance), board.turns(tolerance=tolerance)), least)
                self.assertEqual(board.smooth(tolerance), (lazy_ring(ring, tolerance), find_zigzag(ring, tolerance)))

    def test_bad_tolerance(self):
        for board in (edited(Board(R), 2), CalmBoard(R, 0, 24)):
            for value in NO_TOLERANCES:
                self.check_refused(board, errors.BadTolerance(value), "movement", tolerance=value)
                self.check_refused(board, errors.BadTolerance(value), "turns", tolerance=value)
                self.check_refused(board, errors.BadTolerance(value), "turns", tolerance=value, version=0)
                self.check_refused(board, errors.BadTolerance(value), "smooth", value)

    def test_smooth_is_about_the_present_ring(self):
        board = Board((0, 5, 2, 7))
        board.put(2, 9)
        board.insert(0, 4)
        self.assertEqual(board.smooth(1), (lazy_ring(board.ring(), 1), find_zigzag(board.ring(), 1)))
        for ring in mixed_rings(60):
            for tolerance in tolerances(ring)[:5]:
                self.assertIs(smoothing_holds(ring, tolerance, Board(ring).smooth(tolerance)), True)

    def test_edits_returns_a_tuple_that_stays(self):
        board = Board((0, 5))
        none = board.edits()
        board.put(0, 1)
        one = board.edits()
        board.remove(0)
        self.assertEqual((none, one), ((), (("put", 0, 1),)))

    def test_parameters_by_keyword(self):
        board = Board(R)
        for query in (board.ring, board.swings, board.movement, board.turns):
            with self.assertRaises(TypeError):
                query(0)

    def test_equal_calls(self):
        board = edited(Board(R), 4)
        self.assertEqual(picture(board), picture(board))
        self.assertEqual(board.smooth(1), board.smooth(1))


class EqualTest(unittest.TestCase):
    def check(self, first, second, expected):
        self.assertIs(first == second, expected)
        self.assertIs(second == first, expected)
        self.assertIs(first != second, not expected)
        self.assertIs(second != first, not expected)

    def test_boards(self):
        self.check(Board(R), Board(R), True)
        self.check(Board(R), Board(R[:5]), False)
        self.check(Board(R), Board(R[1:] + R[:1]), False)
        board = Board(R)
        self.check(board, board, True)

    def test_the_present_rings_count(self):
        board = Board((0, 5))
        board.put(0, 1)
        self.check(board, Board((0, 5)), False)
        self.check(board, Board((1, 5)), True)
        board.put(0, 0)
        self.check(board, Board((0, 5)), True)

    def test_calm_boards(self):
        self.check(CalmBoard((0, 5), 1, 2), CalmBoard((0, 5), 1, 2), True)
        self.check(CalmBoard((0, 5), 1, 2), CalmBoard((0, 5), 2, 2), False)
        self.check(CalmBoard((0, 5), 1, 2), CalmBoard((0, 5), 1, 4), False)
        self.check(CalmBoard((0, 5), 2, 4), CalmBoard((0, 5), 4, 2), False)
        self.check(CalmBoard((0, 5), 1, 2), CalmBoard((5, 0), 1, 2), False)
        self.check(CalmBoard((0, 5), 0, 24), Board((0, 5)), False)
        board = CalmBoard((0, 5), 1, 2)
        board.put(0, 1)
        self.check(board, CalmBoard((1, 5), 1, 2), True)

    def test_values_of_other_kinds(self):
        for board in (Board((0, 5)), CalmBoard((0, 5), 1, 2), Board((0,))):
            for value in [*OTHER_VALUES, *nested_values(), (0, 5), (), ((0, 5), (1, 2)), str(board), len(board)]:
                self.check(board, value, False)
            self.assertIs(board == unittest.mock.ANY, False)


class CalmBoardTest(BoardCase):
    def test_bounds(self):
        for tolerance, most in ((0, 6), (0, 24), (1, 4), (1, 5), (2, 2), (4, 0), (LIMIT, 0), (LIMIT, 24)):
            board = CalmBoard(R, tolerance, most)
            self.assertEqual(board.bounds(), (tolerance, most))
            self.assertEqual(board.ring(), R)
            self.assertEqual(str(board), "6 places, 6 turns, 0 edits")
            self.assertIsInstance(board, Board)

    def test_restless_from_the_beginning(self):
        for tolerance, most, number in ((0, 5, 6), (0, 0, 6), (1, 3, 4), (2, 1, 2), (3, 0, 2)):
            self.check_raises(errors.Restless(number), CalmBoard, R, tolerance, most)
        self.check_raises(errors.Restless(24), CalmBoard, (-LIMIT, LIMIT) * 12, LIMIT - 1, 23)
        self.assertEqual(CalmBoard((-LIMIT, LIMIT) * 12, LIMIT, 0).bounds(), (LIMIT, 0))
        self.assertEqual(CalmBoard((7,) * 24, 0, 0).bounds(), (0, 0))

    def test_bad_bounds(self):
        for value in NO_TOLERANCES:
            self.check_raises(errors.BadTolerance(value), CalmBoard, R, value, 24)
            self.check_raises(errors.BadTolerance(value), CalmBoard, R, value, 0)
            self.check_raises(errors.BadTolerance(value), CalmBoard, R, value, None)
        for value in [*NO_NUMBERS, -1, 25, FAR, -FAR]:
            self.check_raises(errors.BadTurns(value), CalmBoard, R, 0, value)
            self.check_raises(errors.BadTurns(value), CalmBoard, R, LIMIT, value)

    def test_refused_edits(self):
        board = CalmBoard((0, 5, 4, 7), 1, 2)
        self.check_refused(board, errors.Restless(4), "put", 2, 2)
        self.check_refused(board, errors.Restless(4), "insert", 2, 2)
        self.assertEqual(board.put(2, 3), 1)
        self.assertEqual(board.insert(2, 3), 2)
        self.assertEqual(board.ring(), (0, 5, 3, 3, 7))
        self.assertEqual(board.turns(), 4)
        self.assertEqual(board.turns(tolerance=1), 2)

    def test_rejected_in_attempt(self):
        board = CalmBoard((0, 5, 4, 7), 1, 2)
        self.check_refused(board, errors.Rejected(0), "attempt", [("put", 2, 2)])
        self.check_refused(board, errors.Rejected(1), "attempt", [("put", 2, 3), ("put", 2, 2), ("put", 2, 4)])
        for index in range(20):
            batch = [("put", 0, 1)] * 19
            batch.insert(index, ("insert", 2, 0))
            self.check_refused(board, errors.Rejected(index), "attempt", batch)
        self.assertEqual(board.attempt([("put", 1, 3), ("put", 2, 2)]), 2)
        self.check_refused(board, errors.BadEdit(1), "attempt", [("put", 1, 9), None])

    def test_order_of_errors(self):
        board = CalmBoard((0,) * 24, 1, 0)
        self.check_refused(board, errors.NoPlace(True), "put", True, 9)
        self.check_refused(board, errors.BadHeight(LIMIT + 1), "put", 0, LIMIT + 1)
        self.check_refused(board, errors.TooLong(24), "insert", 0, 9)
        self.check_refused(board, errors.Restless(2), "put", 0, 9)
        self.check_refused(CalmBoard((0,), 1, 0), errors.LastPlace(), "remove", 0)
        for number in range(60):
            board.put(0, number % 3)
        self.check_refused(board, errors.TooManyEdits(), "put", 0, 9)
        self.check_refused(board, errors.TooManyEdits(), "insert", 0, 9)
        self.check_refused(board, errors.Rejected(0), "attempt", [("put", 0, 9)])

    def test_undo(self):
        board = CalmBoard((0, 5, 4, 7), 1, 2)
        board.attempt([("put", 1, 0), ("put", 2, 0), ("remove", 1)])
        self.assertEqual([board.undo(), board.undo(), board.undo()], [2, 1, 0])
        self.assertEqual(board.ring(), (0, 5, 4, 7))
        self.check_refused(board, errors.NothingToUndo(), "undo")


class Model:
    """A board by the words of points 15 to 17: it keeps the history and says what has to happen."""

    def __init__(self, ring, bounds):
        self.history, self.edits, self.bounds = [ring], [], bounds

    def edit(self, name, *values):
        """The error that an edit has to raise, or None if it is done."""
        ring, place = self.history[-1], values[0]
        if len(self.edits) == 60:
            return errors.TooManyEdits()
        if type(place) is not int or place not in range(len(ring) + (name == "insert")):
            return errors.NoPlace(place)
        if name != "remove" and (type(values[1]) is not int or abs(values[1]) > LIMIT):
            return errors.BadHeight(values[1])
        if name == "insert" and len(ring) == 24:
            return errors.TooLong(24)
        if name == "remove" and len(ring) == 1:
            return errors.LastPlace()
        heights = list(ring)
        if name != "insert":
            heights.pop(place)
        if name != "remove":
            heights.insert(place, values[1])
        if self.bounds:
            number = least_by_swings(tuple(heights), self.bounds[0])[1]
            if number > self.bounds[1]:
                return errors.Restless(number)
        self.history.append(tuple(heights))
        self.edits.append((name, *values))
        return None

    def undo(self):
        if not self.edits:
            return errors.NothingToUndo()
        self.history.pop()
        self.edits.pop()
        return None

    def attempt(self, batch):
        if len(batch) > 20:
            return errors.BadEdits()
        before = list(self.history), list(self.edits)
        for index, edit in enumerate(batch):
            if self.edit(*edit) is not None:
                self.history, self.edits = before
                return errors.Rejected(index)
        return None


class HistoryTest(BoardCase):
    def some_edit(self, source, ring):
        # Short rings are made shorter and long ones longer, so that both ends are reached.
        name = source.choice(("put", "put", "insert", "remove", "remove" if len(ring) < 6 else "insert"))
        place = source.randint(0, len(ring))
        if source.random() < 0.05:
            place = source.choice((-1, True, "0", None, 24, (0,)))
        height = source.choice((source.randint(-3, 12), LIMIT, -LIMIT))
        if source.random() < 0.05:
            height = source.choice((True, LIMIT + 1, "", None))
        return (name, place) if name == "remove" else (name, place, height)

    def step(self, source, board, model):
        choice = source.random()
        if choice < 0.6:
            name, *values = self.some_edit(source, board.ring())
            return model.edit(name, *values), getattr(board, name), values
        if choice < 0.75:
            return model.undo(), board.undo, []
        batch = [self.some_edit(source, board.ring()) for _ in range(source.choice((0, 1, 2, 3, 5, 20, 21)))]
        return model.attempt(batch), board.attempt, [source.choice((list, tuple))(batch)]

    def check_like(self, board, model):
        ring = model.history[-1]
        self.assertEqual((board.ring(), board.edits(), len(board)), (ring, tuple(model.edits), len(model.edits)))
        self.assertEqual(str(board), f"{len(ring)} places, {len(turns(ring))} turns, {len(model.edits)} edits")
        version = len(model.edits) // 2
        self.assertEqual(board.ring(version=version), model.history[version])
        fresh = Board(ring)
        self.assertEqual((board.ring(), board.swings()), (fresh.ring(), fresh.swings()))
        for tolerance in (0, 1, 2, LIMIT):
            self.assertEqual(board.movement(tolerance=tolerance), fresh.movement(tolerance=tolerance))
            self.assertEqual(board.turns(tolerance=tolerance), fresh.turns(tolerance=tolerance))
        if model.bounds:
            self.assertLessEqual(board.turns(tolerance=model.bounds[0]), model.bounds[1])
        self.assertIs(board == fresh, model.bounds is None)

    def run_history(self, seed, ring, bounds):
        source = random.Random(seed)
        board = CalmBoard(ring, *bounds) if bounds else Board(ring)
        model = Model(ring, bounds)
        raised = set()
        for _ in range(250):
            error, function, values = self.step(source, board, model)
            if error is None:
                self.assertEqual(function(*values), len(model.edits))
            else:
                self.check_raises(error, function, *values)
                raised.add(type(error).__name__)
            self.check_like(board, model)
        return raised

    def test_histories(self):
        raised = set()
        for seed, ring in enumerate(((0,), (0, 5), R, LONG, (3, 1) * 11)):
            raised |= self.run_history(seed, ring, None)
            raised |= self.run_history(seed, ring, (1, max(2, least_by_swings(ring, 1)[1])))
            raised |= self.run_history(seed, ring, (3, 6))
        self.assertEqual(raised, {"TooManyEdits", "NoPlace", "BadHeight", "TooLong", "LastPlace", "Restless",
                                  "NothingToUndo", "BadEdits", "Rejected"})


if __name__ == "__main__":
    unittest.main()
