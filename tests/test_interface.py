"""The interface: names, arguments and kinds of values."""

import copy
import inspect
import unittest

from ringswings import (boards, bounds, changing, errors, orders, pairing, rings, shapes, shells, smoothing, swings,
                        texts)
from ringswings.errors import BadText, NoIndex, NoPlace, NoVersion, RingError
from tests.oracles import OTHER_VALUES, nested_values

# The names that the section "The interface" lists.
NAMES = {
    errors: """RingError NotDistinct TooLong LastPlace OutOfRange BadRing BadHeight BadTolerance BadTurns Restless
        TooManyEdits NothingToUndo BadEdits BadEdit Rejected BadText NoIndex NoPlace NoVersion""",
    bounds: "LIMIT MAX_LENGTH MAX_EDITS BATCH",
    rings: "is_ring ring_error turning_places movement_of",
    swings: "passage_places count_passages swings_of find_removal removal_holds are_alike find_difference",
    shapes: "is_collection make_ring plain_ring",
    orders: "count_rings ring_at ring_index",
    smoothing: """lazy_ring least_movement least_turns find_zigzag zigzag_bound smoothing_holds tolerance_for_turns
        tolerance_for_movement""",
    changing: """set_height insert_height remove_place turned backward reflected scaled repeated step_effect""",
    pairing: "find_pairing pairing_holds swing_distance",
    boards: "Board CalmBoard",
    texts: "ring_text swings_text parse_ring parse_swings",
    shells: "Shell",
}

PARAMETERS = {
    rings.is_ring: ["value"],
    rings.ring_error: ["value"],
    rings.turning_places: ["ring"],
    rings.movement_of: ["ring"],
    swings.passage_places: ["ring", "low", "high"],
    swings.count_passages: ["ring", "low", "high"],
    swings.swings_of: ["ring"],
    swings.find_removal: ["ring"],
    swings.removal_holds: ["ring", "value"],
    swings.are_alike: ["first", "second"],
    swings.find_difference: ["first", "second"],
    shapes.is_collection: ["value"],
    shapes.make_ring: ["collection"],
    shapes.plain_ring: ["ring"],
    orders.count_rings: ["collection"],
    orders.ring_at: ["collection", "index"],
    orders.ring_index: ["ring"],
    smoothing.lazy_ring: ["ring", "tolerance"],
    smoothing.least_movement: ["ring", "tolerance"],
    smoothing.least_turns: ["ring", "tolerance"],
    smoothing.find_zigzag: ["ring", "tolerance"],
    smoothing.zigzag_bound: ["ring", "tolerance", "value"],
    smoothing.smoothing_holds: ["ring", "tolerance", "value"],
    smoothing.tolerance_for_turns: ["ring", "turns"],
    smoothing.tolerance_for_movement: ["ring", "movement"],
    changing.set_height: ["ring", "place", "height"],
    changing.insert_height: ["ring", "place", "height"],
    changing.remove_place: ["ring", "place"],
    changing.turned: ["ring", "place"],
    changing.backward: ["ring"],
    changing.reflected: ["ring", "total"],
    changing.scaled: ["ring", "factor", "offset"],
    changing.repeated: ["ring", "times"],
    changing.step_effect: ["ring", "place", "step"],
    pairing.find_pairing: ["first", "second", "d"],
    pairing.pairing_holds: ["first", "second", "d", "value"],
    pairing.swing_distance: ["first", "second"],
    boards.Board: ["ring"],
    boards.CalmBoard: ["ring", "tolerance", "turns"],
    texts.ring_text: ["ring"],
    texts.swings_text: ["swings"],
    texts.parse_ring: ["text"],
    texts.parse_swings: ["text"],
    shells.Shell: ["board"],
}

# The parameters of the methods; those that are passed by keyword, with their defaults, are in the dicts.
BOARD_METHODS = {
    "put": (["place", "height"], {}),
    "insert": (["place", "height"], {}),
    "remove": (["place"], {}),
    "undo": ([], {}),
    "attempt": (["edits"], {}),
    "ring": ([], {"version": None}),
    "swings": ([], {"version": None}),
    "movement": ([], {"tolerance": 0, "version": None}),
    "turns": ([], {"tolerance": 0, "version": None}),
    "smooth": (["tolerance"], {}),
    "edits": ([], {}),
}

R = (0, 5, 2, 7, 1, 3)
C = ((0, 7), (1, 3), (2, 5))


class BoundsTest(unittest.TestCase):
    def test_bounds(self):
        values = [bounds.LIMIT, bounds.MAX_LENGTH, bounds.MAX_EDITS, bounds.BATCH]
        self.assertEqual(values, [1000000000, 24, 60, 20])
        self.assertEqual([type(value) for value in values], [int] * 4)


class InterfaceTest(unittest.TestCase):
    def test_names(self):
        for module, names in NAMES.items():
            for name in names.split():
                self.assertTrue(hasattr(module, name), (module.__name__, name))
                # A name is what its own module defines, and has its parameters checked below.
                value = getattr(module, name)
                if callable(value) and module is not errors:
                    self.assertEqual((value.__module__, value.__name__), (module.__name__, name))
                    self.assertIn(value, PARAMETERS)

    def test_parameters(self):
        for function, names in PARAMETERS.items():
            self.assertEqual(list(inspect.signature(function).parameters), names, function.__name__)

    def check_method(self, owner, name, positional, named):
        method = vars(owner)[name]
        parameters = list(inspect.signature(method).parameters.values())[1:]
        plain = [one for one in parameters if one.kind == one.POSITIONAL_OR_KEYWORD]
        self.assertEqual([one.name for one in plain], positional, name)
        self.assertTrue(all(one.default is one.empty for one in plain))
        others = [one for one in parameters if one not in plain]
        self.assertTrue(all(one.kind == one.KEYWORD_ONLY for one in others))
        self.assertEqual({one.name: one.default for one in others}, named, name)

    def test_methods_are_defined_in_their_classes(self):
        for name, (positional, named) in BOARD_METHODS.items():
            self.check_method(boards.Board, name, positional, named)
        for name in ("__len__", "__str__", "__eq__"):
            self.assertIn(name, vars(boards.Board))
        self.check_method(boards.CalmBoard, "bounds", [], {})
        self.check_method(shells.Shell, "execute", ["line"], {})
        for owner in (boards.Board, boards.CalmBoard, shells.Shell):
            self.assertIn("__init__", vars(owner))
        self.assertTrue(issubclass(boards.CalmBoard, boards.Board))
        self.assertFalse(hasattr(boards.Board, "bounds"))

    def test_kinds_of_results(self):
        for result in (rings.is_ring(R), rings.is_ring([]), swings.are_alike(R, R), swings.are_alike(R, (0,)),
                       swings.removal_holds(R, ()), swings.removal_holds((0,), ()), shapes.is_collection(()),
                       shapes.is_collection(((0, 1),)), shapes.is_collection(None)):
            self.assertIs(type(result), bool)
        for result in (rings.turning_places(R), swings.passage_places(R, 2, 3), swings.swings_of(R),
                       swings.find_removal(R), swings.find_removal((0,)), shapes.make_ring(()), shapes.plain_ring(R),
                       rings.ring_error(0), swings.find_difference(R, (0,))):
            self.assertIs(type(result), tuple)
        for result in (rings.movement_of(R), rings.movement_of((0,)), swings.count_passages(R, 2, 3)):
            self.assertIs(type(result), int)
        for pair in swings.swings_of(R) + swings.find_removal(R):
            self.assertIs(type(pair), tuple)

    def test_kinds_of_results_of_smoothing_and_changing(self):
        best = (smoothing.lazy_ring(R, 1), smoothing.find_zigzag(R, 1))
        for result in (smoothing.smoothing_holds(R, 1, best), smoothing.smoothing_holds(R, 1, None),
                       smoothing.smoothing_holds(R, 1, ((), ()))):
            self.assertIs(type(result), bool)
        for result in (*best, smoothing.lazy_ring((0,), 0), smoothing.find_zigzag((0,), 0),
                       changing.set_height(R, 0, 1), changing.insert_height(R, 0, 1), changing.remove_place(R, 0),
                       changing.turned(R, 2), changing.backward(R), changing.reflected(R, 1),
                       changing.scaled(R, 1, 1), changing.repeated(R, 2), changing.step_effect(R, 0, 1),
                       changing.step_effect((0,), 0, 1)):
            self.assertIs(type(result), tuple)
        for result in (smoothing.least_movement(R, 1), smoothing.least_turns(R, 1), smoothing.least_movement((0,), 1),
                       smoothing.zigzag_bound(R, 1, ()), smoothing.zigzag_bound(R, 0, (0, 3)),
                       smoothing.tolerance_for_turns(R, 2), smoothing.tolerance_for_turns((0,), 2),
                       smoothing.tolerance_for_movement(R, 2), smoothing.tolerance_for_movement((0,), 2)):
            self.assertIs(type(result), int)

    def test_kinds_of_results_of_boards(self):
        for board in (boards.Board(R), boards.CalmBoard(R, 0, 6)):
            for result in (board.put(0, 0), board.insert(0, 0), board.remove(0), board.undo(), board.attempt([]),
                           board.attempt([("put", 0, 0)]), board.movement(), board.turns(), len(board)):
                self.assertIs(type(result), int)
            for result in (board.ring(), board.swings(), board.edits(), board.edits()[0], board.smooth(1)):
                self.assertIs(type(result), tuple)
            self.assertIs(type(str(board)), str)
            self.assertIs(type(board == board), bool)
        self.assertIs(type(boards.CalmBoard(R, 0, 6).bounds()), tuple)

    def test_kinds_of_results_of_orders_and_pairing(self):
        for result in (orders.count_rings(()), orders.count_rings(C), orders.ring_index(R), orders.ring_index((0,)),
                       pairing.swing_distance(R, R), pairing.swing_distance(R, (0,))):
            self.assertIs(type(result), int)
        for result in (orders.ring_at((), 0), orders.ring_at(C, 3), pairing.find_pairing(R, R, 0),
                       pairing.find_pairing((0,), (0,), 0), *pairing.find_pairing(R, R, 0)):
            self.assertIs(type(result), tuple)
        self.assertIsNone(pairing.find_pairing(R, (0,), 0))
        for result in (pairing.pairing_holds(R, R, 0, pairing.find_pairing(R, R, 0)),
                       pairing.pairing_holds(R, R, 0, ()), pairing.pairing_holds((0,), (0,), 0, ()),
                       pairing.pairing_holds(R, R, 0, None), pairing.pairing_holds(R, R, 9, ((0, 9),))):
            self.assertIs(type(result), bool)

    def test_kinds_of_results_of_texts_and_shells(self):
        shell = shells.Shell(boards.Board(R))
        for result in (texts.ring_text(R), texts.swings_text(()), texts.swings_text(C), shell.execute("ring"),
                       shell.execute("put 0 0"), shell.execute("put 9 0"), shell.execute("passages 0 0"),
                       shell.execute("turns 0"), shell.execute(None)):
            self.assertIs(type(result), str)
        for result in (texts.parse_ring("0 5"), texts.parse_swings("none"), texts.parse_swings("0..5")):
            self.assertIs(type(result), tuple)

    def test_any_value_is_accepted_and_not_changed(self):
        for value in [*OTHER_VALUES, *nested_values()]:
            before = copy.deepcopy(value)
            for _ in range(2):
                self.assertIs(rings.is_ring(value), False, value)
                self.assertIsNotNone(rings.ring_error(value), value)
                self.assertIs(swings.removal_holds(R, value), False, value)
                self.assertIs(swings.removal_holds((0, 5), value), False, value)
                self.assertIs(shapes.is_collection(value), False, value)
                self.assertIsNone(smoothing.zigzag_bound(R, 0, value), value)
                self.assertIs(smoothing.smoothing_holds(R, 0, value), False, value)
                self.assertIs(pairing.pairing_holds(R, R, 0, value), False, value)
                self.assertEqual(shells.Shell(boards.Board(R)).execute(value), "unknown command", value)
                for parse in (texts.parse_ring, texts.parse_swings):
                    with self.assertRaises(BadText):
                        parse(value)
                if type(value) is not int or value not in range(4):
                    with self.assertRaises(NoIndex):
                        orders.ring_at(C, value)
            self.assertEqual(repr(value), repr(before))

    def test_boards_do_not_change_any_value(self):
        for value in [*OTHER_VALUES, *nested_values()]:
            before = copy.deepcopy(value)
            board = boards.Board(R)
            for call in (lambda: boards.Board(value), lambda: boards.CalmBoard(value, value, value),
                         lambda: boards.CalmBoard(R, value, 6), lambda: boards.CalmBoard(R, 0, value),
                         lambda: board.put(value, value), lambda: board.put(0, value), lambda: board.insert(value, 0),
                         lambda: board.remove(value), lambda: board.attempt(value), lambda: board.attempt([value]),
                         lambda: board.attempt([("put", value, value)]), lambda: board.ring(version=value),
                         lambda: board.turns(tolerance=value), lambda: board.smooth(value), lambda: board == value):
                try:
                    call()
                except (RingError, NoPlace, NoVersion):
                    pass
            self.assertEqual(repr(value), repr(before))

    def test_equal_calls_return_equal_results(self):
        for ring in (R, (0, 5, 0, 5, 0, 5), (3, 3, 1, 1, 3)):
            again = tuple(list(ring))
            self.assertEqual(swings.find_removal(ring), swings.find_removal(again))
            self.assertEqual(swings.swings_of(ring), swings.swings_of(again))
            self.assertEqual(shapes.plain_ring(ring), shapes.plain_ring(again))
            for tolerance in (0, 1, 2):
                self.assertEqual(smoothing.find_zigzag(ring, tolerance), smoothing.find_zigzag(again, tolerance))
                self.assertEqual(boards.Board(ring).smooth(tolerance), boards.Board(again).smooth(tolerance))
            self.assertEqual(changing.step_effect(ring, 1, 1), changing.step_effect(again, 1, 1))
            for d in (0, 1, 2):
                self.assertEqual(pairing.find_pairing(ring, R, d), pairing.find_pairing(again, R, d))
            self.assertEqual(texts.parse_ring(texts.ring_text(ring)), texts.parse_ring(texts.ring_text(again)))
        self.assertEqual([orders.ring_at(C, index) for index in range(4)],
                         [orders.ring_at(tuple(list(C)), index) for index in range(4)])

    def test_later_changes_to_an_argument(self):
        batch = [("put", 0, 1)]
        board = boards.Board(R)
        shell = shells.Shell(board)
        board.attempt(batch)
        batch[0] = ("put", 0, 9)
        self.assertEqual((board.edits(), shell.execute("ring")), ((("put", 0, 1),), "1 5 2 7 1 3"))

    def test_results_of_this_package_with_parts_replaced(self):
        found = pairing.find_pairing(R, R, 0)
        board = boards.Board(R)
        for value in (found[:1] + (None,), found + (board,), (board,), (NoPlace(0),), board, NoPlace(0), ((board, 0),),
                      shells.Shell(board)):
            self.assertIs(pairing.pairing_holds(R, R, 0, value), False)
            self.assertIs(swings.removal_holds(R, value), False)
            self.assertIs(smoothing.smoothing_holds(R, 0, value), False)
            self.assertIsNone(smoothing.zigzag_bound(R, 0, value))
            self.assertIs(shapes.is_collection(value), False)
            self.assertIs(rings.is_ring(value), False)
            self.assertEqual(shells.Shell(boards.Board(R)).execute(value), "unknown command")
            for parse in (texts.parse_ring, texts.parse_swings):
                with self.assertRaises(BadText):
                    parse(value)
            with self.assertRaises(NoIndex):
                orders.ring_at(C, value)

    def test_no_error_somewhat_beyond_the_limits(self):
        long_ring = tuple(range(30))
        self.assertEqual(swings.swings_of(long_ring), ((0, 29),))
        self.assertEqual(swings.swings_of((0, 10 ** 9 + 5)), ((0, 10 ** 9 + 5),))
        self.assertEqual(rings.movement_of(long_ring), 58)
        self.assertEqual(swings.count_passages(R, -10 ** 35, 10 ** 35), 0)
        self.assertEqual(len(shapes.make_ring(((0, 1),) * 13)), 26)
        self.assertEqual(smoothing.lazy_ring((0, 5), 10 ** 9 + 5), (0, 0))
        self.assertEqual(smoothing.least_turns(long_ring, 10 ** 9 + 5), 0)
        self.assertEqual(smoothing.zigzag_bound(long_ring, 0, (0, 29)), 58)
        self.assertEqual(smoothing.tolerance_for_turns((0, 2 * 10 ** 9 + 6), 0), 10 ** 9 + 3)
        self.assertEqual(smoothing.tolerance_for_movement((0, 2 * 10 ** 9 + 6), 0), 10 ** 9 + 3)
        self.assertEqual(changing.set_height(R, 0, 10 ** 9 + 5)[0], 10 ** 9 + 5)
        self.assertEqual(changing.scaled((0, 0), 10 ** 35, 5), (5, 5))
        many = tuple([(at, 40 - at) for at in range(13)])
        self.assertEqual(orders.count_rings(many), 24 * orders.count_rings(many[:12]))
        self.assertEqual(orders.ring_index(orders.ring_at(many, 10 ** 11)), 10 ** 11)
        self.assertEqual(pairing.find_pairing((0, 10 ** 9 + 5), (0, 10 ** 9 + 6), 1), ((0, 0),))
        self.assertEqual(pairing.find_pairing(R, (0,), 10 ** 9 + 5), ())
        self.assertEqual(pairing.swing_distance((0, 1) * 13, (0, 2) * 13), 1)
        self.assertEqual(pairing.swing_distance((0, 2 * 10 ** 9 + 6), (0,)), 10 ** 9 + 3)
        self.assertEqual(texts.ring_text((10 ** 12,) * 25), "1000000000000 " * 24 + "1000000000000")
        self.assertEqual(texts.swings_text(((0, 10 ** 12),)), "0..1000000000000")
        self.assertEqual(shells.Shell(boards.Board(R)).execute("ring " * 500), "unknown command")


if __name__ == "__main__":
    unittest.main()
