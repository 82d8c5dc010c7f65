"""The interface: names, arguments and kinds of values."""

import copy
import inspect
import unittest

from ringswings import boards, bounds, changing, rings, shapes, smoothing, swings
from ringswings.errors import NoPlace, NoVersion, RingError
from tests.oracles import OTHER_VALUES, nested_values

PARAMETERS = {
    rings.is_ring: ["value"],
    rings.ring_error: ["value"],
    rings.turning_places: ["ring"],
    rings.movement_of: ["ring"],
    swings.passage_places: ["ring", "low", "high"],
    swings.count_passages: ["ring", "low", "high"],
    swings.swings_of: ["ring"],
    swings.find_removal: ["ring"],
    swings.removal_holds: ["ring", "value"],
    swings.are_alike: ["first", "second"],
    swings.find_difference: ["first", "second"],
    shapes.is_collection: ["value"],
    shapes.make_ring: ["collection"],
    shapes.plain_ring: ["ring"],
    smoothing.lazy_ring: ["ring", "tolerance"],
    smoothing.least_movement: ["ring", "tolerance"],
    smoothing.least_turns: ["ring", "tolerance"],
    smoothing.find_zigzag: ["ring", "tolerance"],
    smoothing.zigzag_bound: ["ring", "tolerance", "value"],
    smoothing.smoothing_holds: ["ring", "tolerance", "value"],
    smoothing.tolerance_for_turns: ["ring", "turns"],
    smoothing.tolerance_for_movement: ["ring", "movement"],
    changing.set_height: ["ring", "place", "height"],
    changing.insert_height: ["ring", "place", "height"],
    changing.remove_place: ["ring", "place"],
    changing.turned: ["ring", "place"],
    changing.backward: ["ring"],
    changing.reflected: ["ring", "total"],
    changing.scaled: ["ring", "factor", "offset"],
    changing.repeated: ["ring", "times"],
    changing.step_effect: ["ring", "place", "step"],
    boards.Board: ["ring"],
    boards.CalmBoard: ["ring", "tolerance", "turns"],
}

# The parameters of the methods; those that are passed by keyword, with their defaults, are in the dicts.
BOARD_METHODS = {
    "put": (["place", "height"], {}),
    "insert": (["place", "height"], {}),
    "remove": (["place"], {}),
    "undo": ([], {}),
    "attempt": (["edits"], {}),
    "ring": ([], {"version": None}),
    "swings": ([], {"version": None}),
    "movement": ([], {"tolerance": 0, "version": None}),
    "turns": ([], {"tolerance": 0, "version": None}),
    "smooth": (["tolerance"], {}),
    "edits": ([], {}),
}

R = (0, 5, 2, 7, 1, 3)


class BoundsTest(unittest.TestCase):
    def test_bounds(self):
        values = [bounds.LIMIT, bounds.MAX_LENGTH, bounds.MAX_EDITS, bounds.BATCH]
        self.assertEqual(values, [1000000000, 24, 60, 20])
        self.assertEqual([type(value) for value in values], [int] * 4)


class InterfaceTest(unittest.TestCase):
    def test_parameters(self):
        for function, names in PARAMETERS.items():
            self.assertEqual(list(inspect.signature(function).parameters), names, function.__name__)

    def check_method(self, owner, name, positional, named):
        method = vars(owner)[name]
        parameters = list(inspect.signature(method).parameters.values())[1:]
        plain = [one for one in parameters if one.kind == one.POSITIONAL_OR_KEYWORD]
        self.assertEqual([one.name for one in plain], positional, name)
        self.assertTrue(all(one.default is one.empty for one in plain))
        others = [one for one in parameters if one not in plain]
        self.assertTrue(all(one.kind == one.KEYWORD_ONLY for one in others))
        self.assertEqual({one.name: one.default for one in others}, named, name)

    def test_methods_are_defined_in_their_classes(self):
        for name, (positional, named) in BOARD_METHODS.items():
            self.check_method(boards.Board, name, positional, named)
        for name in ("__len__", "__str__", "__eq__"):
            self.assertIn(name, vars(boards.Board))
        self.check_method(boards.CalmBoard, "bounds", [], {})
        self.assertTrue(issubclass(boards.CalmBoard, boards.Board))
        self.assertFalse(hasattr(boards.Board, "bounds"))

    def test_kinds_of_results(self):
        for result in (rings.is_ring(R), rings.is_ring([]), swings.are_alike(R, R), swings.are_alike(R, (0,)),
                       swings.removal_holds(R, ()), swings.removal_holds((0,), ()), shapes.is_collection(()),
                       shapes.is_collection(((0, 1),)), shapes.is_collection(None)):
            self.assertIs(type(result), bool)
        for result in (rings.turning_places(R), swings.passage_places(R, 2, 3), swings.swings_of(R),
                       swings.find_removal(R), swings.find_removal((0,)), shapes.make_ring(()), shapes.plain_ring(R),
                       rings.ring_error(0), swings.find_difference(R, (0,))):
            self.assertIs(type(result), tuple)
        for result in (rings.movement_of(R), rings.movement_of((0,)), swings.count_passages(R, 2, 3)):
            self.assertIs(type(result), int)
        for pair in swings.swings_of(R) + swings.find_removal(R):
            self.assertIs(type(pair), tuple)

    def test_kinds_of_results_of_smoothing_and_changing(self):
        best = (smoothing.lazy_ring(R, 1), smoothing.find_zigzag(R, 1))
        for result in (smoothing.smoothing_holds(R, 1, best), smoothing.smoothing_holds(R, 1, None),
                       smoothing.smoothing_holds(R, 1, ((), ()))):
            self.assertIs(type(result), bool)
        for result in (*best, smoothing.lazy_ring((0,), 0), smoothing.find_zigzag((0,), 0),
                       changing.set_height(R, 0, 1), changing.insert_height(R, 0, 1), changing.remove_place(R, 0),
                       changing.turned(R, 2), changing.backward(R), changing.reflected(R, 1),
                       changing.scaled(R, 1, 1), changing.repeated(R, 2), changing.step_effect(R, 0, 1),
                       changing.step_effect((0,), 0, 1)):
            self.assertIs(type(result), tuple)
        for result in (smoothing.least_movement(R, 1), smoothing.least_turns(R, 1), smoothing.least_movement((0,), 1),
                       smoothing.zigzag_bound(R, 1, ()), smoothing.zigzag_bound(R, 0, (0, 3)),
                       smoothing.tolerance_for_turns(R, 2), smoothing.tolerance_for_turns((0,), 2),
                       smoothing.tolerance_for_movement(R, 2), smoothing.tolerance_for_movement((0,), 2)):
            self.assertIs(type(result), int)

    def test_kinds_of_results_of_boards(self):
        for board in (boards.Board(R), boards.CalmBoard(R, 0, 6)):
            for result in (board.put(0, 0), board.insert(0, 0), board.remove(0), board.undo(), board.attempt([]),
                           board.attempt([("put", 0, 0)]), board.movement(), board.turns(), len(board)):
                self.assertIs(type(result), int)
            for result in (board.ring(), board.swings(), board.edits(), board.edits()[0], board.smooth(1)):
                self.assertIs(type(result), tuple)
            self.assertIs(type(str(board)), str)
            self.assertIs(type(board == board), bool)
        self.assertIs(type(boards.CalmBoard(R, 0, 6).bounds()), tuple)

    def test_any_value_is_accepted_and_not_changed(self):
        for value in [*OTHER_VALUES, *nested_values()]:
            before = copy.deepcopy(value)
            for _ in range(2):
                self.assertIs(rings.is_ring(value), False, value)
                self.assertIsNotNone(rings.ring_error(value), value)
                self.assertIs(swings.removal_holds(R, value), False, value)
                self.assertIs(swings.removal_holds((0, 5), value), False, value)
                self.assertIs(shapes.is_collection(value), False, value)
                self.assertIsNone(smoothing.zigzag_bound(R, 0, value), value)
                self.assertIs(smoothing.smoothing_holds(R, 0, value), False, value)
            self.assertEqual(repr(value), repr(before))

    def test_boards_do_not_change_any_value(self):
        for value in [*OTHER_VALUES, *nested_values()]:
            before = copy.deepcopy(value)
            board = boards.Board(R)
            for call in (lambda: boards.Board(value), lambda: boards.CalmBoard(value, value, value),
                         lambda: boards.CalmBoard(R, value, 6), lambda: boards.CalmBoard(R, 0, value),
                         lambda: board.put(value, value), lambda: board.put(0, value), lambda: board.insert(value, 0),
                         lambda: board.remove(value), lambda: board.attempt(value), lambda: board.attempt([value]),
                         lambda: board.attempt([("put", value, value)]), lambda: board.ring(version=value),
                         lambda: board.turns(tolerance=value), lambda: board.smooth(value), lambda: board == value):
                try:
                    call()
                except (RingError, NoPlace, NoVersion):
                    pass
            self.assertEqual(repr(value), repr(before))

    def test_equal_calls_return_equal_results(self):
        for ring in (R, (0, 5, 0, 5, 0, 5), (3, 3, 1, 1, 3)):
            again = tuple(list(ring))
            self.assertEqual(swings.find_removal(ring), swings.find_removal(again))
            self.assertEqual(swings.swings_of(ring), swings.swings_of(again))
            self.assertEqual(shapes.plain_ring(ring), shapes.plain_ring(again))
            for tolerance in (0, 1, 2):
                self.assertEqual(smoothing.find_zigzag(ring, tolerance), smoothing.find_zigzag(again, tolerance))
                self.assertEqual(boards.Board(ring).smooth(tolerance), boards.Board(again).smooth(tolerance))
            self.assertEqual(changing.step_effect(ring, 1, 1), changing.step_effect(again, 1, 1))

    def test_no_error_somewhat_beyond_the_limits(self):
        long_ring = tuple(range(30))
        self.assertEqual(swings.swings_of(long_ring), ((0, 29),))
        self.assertEqual(swings.swings_of((0, 10 ** 9 + 5)), ((0, 10 ** 9 + 5),))
        self.assertEqual(rings.movement_of(long_ring), 58)
        self.assertEqual(swings.count_passages(R, -10 ** 35, 10 ** 35), 0)
        self.assertEqual(len(shapes.make_ring(((0, 1),) * 13)), 26)
        self.assertEqual(smoothing.lazy_ring((0, 5), 10 ** 9 + 5), (0, 0))
        self.assertEqual(smoothing.least_turns(long_ring, 10 ** 9 + 5), 0)
        self.assertEqual(smoothing.zigzag_bound(long_ring, 0, (0, 29)), 58)
        self.assertEqual(smoothing.tolerance_for_turns((0, 2 * 10 ** 9 + 6), 0), 10 ** 9 + 3)
        self.assertEqual(smoothing.tolerance_for_movement((0, 2 * 10 ** 9 + 6), 0), 10 ** 9 + 3)
        self.assertEqual(changing.set_height(R, 0, 10 ** 9 + 5)[0], 10 ** 9 + 5)
        self.assertEqual(changing.scaled((0, 0), 10 ** 35, 5), (5, 5))


if __name__ == "__main__":
    unittest.main()
