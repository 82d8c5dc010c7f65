"""Point 19: shells."""

import itertools
import random
import unittest

from ringswings import errors
from ringswings.boards import Board, CalmBoard
from ringswings.shells import Shell
from ringswings.smoothing import lazy_ring
from tests.oracles import (LIMIT, OTHER_VALUES, least_by_swings, mixed_rings, nested_values, number_texts, passages,
                           swings, tolerances)

R = (0, 5, 2, 7, 1, 3)
LONG = tuple(range(24))
COUNTS = {"put": 2, "insert": 2, "remove": 1, "undo": 0, "ring": 0, "swings": 0, "movement": 1, "turns": 1,
          "passages": 2, "smooth": 1}
NO_NUMBERS = ("", "-0", "+1", "05", "00", "-05", "--1", "-", "1_0", "1.0", "x", "0x1", "10000000000", "-10000000000",
              "00000000001", "99999999999", "9" * 1900, "0\n", "\n0", "0,", "None", "True", "0..1", "0" * 1900)
UNKNOWN = "unknown command"


class ShellCase(unittest.TestCase):
    def check(self, shell, answers):
        """Each line has its answer."""
        for line, answer in answers:
            found = shell.execute(line)
            self.assertIs(type(found), str)
            self.assertEqual(found, answer, line)

    def check_unknown(self, lines):
        """The lines are answered so on any board, and change nothing."""
        for ring in (R, (3,), LONG):
            board = Board(ring)
            board.put(0, 0)
            shell = Shell(board)
            before = board.ring(), board.edits()
            for line in lines:
                self.assertEqual(shell.execute(line), UNKNOWN, repr(line))
            self.assertEqual((board.ring(), board.edits()), before)


class EditTest(ShellCase):
    def test_edits(self):
        board = Board((0, 5, 2, 7))
        self.check(Shell(board), [("put 2 4", "ok 1"), ("ring", "0 5 4 7"), ("insert 4 -3", "ok 2"),
                                  ("ring", "0 5 4 7 -3"), ("remove 0", "ok 3"), ("ring", "5 4 7 -3"), ("undo", "ok 2"),
                                  ("undo", "ok 1"), ("undo", "ok 0"), ("ring", "0 5 2 7")])
        self.assertEqual((len(board), board.ring()), (0, (0, 5, 2, 7)))

    def test_heights_at_both_limits(self):
        board = Board((0, 5))
        self.check(Shell(board), [("put 0 -1000000000", "ok 1"), ("put 1 1000000000", "ok 2"),
                                  ("ring", "-1000000000 1000000000"), ("insert 0 1000000000", "ok 3"),
                                  ("insert 3 -1000000000", "ok 4"), ("insert 2 0", "ok 5")])
        self.assertEqual(board.ring(), (LIMIT, -LIMIT, 0, LIMIT, -LIMIT))

    def test_no_place(self):
        for ring in ((0,), R, LONG):
            board = Board(ring)
            for number in (-1, -len(ring), len(ring) + 1, 9999999999, -9999999999):
                self.check(Shell(board), [(f"put {number} 5", "error NoPlace"), (f"insert {number} 5", "error NoPlace"),
                                          (f"remove {number}", "error NoPlace")])
            self.check(Shell(board), [(f"put {len(ring)} 5", "error NoPlace"),
                                      (f"remove {len(ring)}", "error NoPlace")])
            self.assertEqual((board.ring(), len(board)), (ring, 0))

    def test_bad_height(self):
        board = Board(R)
        for number in (1000000001, -1000000001, 9999999999, -9999999999):
            self.check(Shell(board), [(f"put 0 {number}", "error BadHeight"), (f"insert 6 {number}", "error BadHeight"),
                                      (f"put 6 {number}", "error NoPlace"), (f"insert 7 {number}", "error NoPlace")])
        self.assertEqual((board.ring(), len(board)), (R, 0))

    def test_too_long_and_last_place(self):
        self.check(Shell(Board(LONG)), [("insert 0 0", "error TooLong"), ("insert 24 0", "error TooLong"),
                                        ("insert 25 0", "error NoPlace"), ("insert 0 1000000001", "error BadHeight"),
                                        ("remove 23", "ok 1"), ("insert 23 5", "ok 2"),
                                        ("insert 0 0", "error TooLong")])
        self.check(Shell(Board((0, 5))), [("remove 1", "ok 1"), ("remove 0", "error LastPlace"),
                                          ("remove 1", "error NoPlace"), ("ring", "0")])

    def test_nothing_to_undo(self):
        self.check(Shell(Board(R)), [("undo", "error NothingToUndo"), ("put 0 1", "ok 1"), ("undo", "ok 0"),
                                     ("undo", "error NothingToUndo"), ("ring", "0 5 2 7 1 3")])

    def test_too_many_edits(self):
        shell = Shell(Board(R))
        self.check(shell, [(f"put 0 {number}", f"ok {number}") for number in range(1, 61)])
        for line in ("put 0 1", "put 99 1", "put 0 9999999999", "insert 0 1", "insert -1 1", "remove 0", "remove 99"):
            self.check(shell, [(line, "error TooManyEdits")])
        self.check(shell, [("ring", "60 5 2 7 1 3"), ("undo", "ok 59"), ("remove 0", "ok 60"),
                           ("undo", "ok 59"), ("put 99 1", "error NoPlace")])


class QueryTest(ShellCase):
    def test_ring_and_swings(self):
        for ring, heights, found in (((0,), "0", "none"), ((4, 4), "4 4", "none"), (R, "0 5 2 7 1 3", "0..7 1..3 2..5"),
                                     ((-5, -7), "-5 -7", "-7..-5"),
                                     ((-LIMIT, LIMIT), "-1000000000 1000000000", "-1000000000..1000000000")):
            self.check(Shell(Board(ring)), [("ring", heights), ("swings", found)])

    def test_movement_and_turns(self):
        self.check(Shell(Board(R)), [("movement 0", "24"), ("movement 1", "12"), ("movement 2", "6"),
                                     ("movement 1000000000", "0"), ("turns 0", "6"), ("turns 1", "4"), ("turns 4", "0"),
                                     ("turns 1000000000", "0")])
        self.check(Shell(Board((-LIMIT, LIMIT) * 12)), [("movement 0", "48000000000"), ("turns 999999999", "24"),
                                                        ("movement 999999999", "48"), ("turns 1000000000", "0")])

    def test_smooth(self):
        self.check(Shell(Board(R)), [("smooth 1", "1 4 3 6 2 2"), ("smooth 0", "0 5 2 7 1 3"),
                                     ("smooth 2", "2 3 3 5 3 3")])
        self.check(Shell(Board((-LIMIT, LIMIT))), [("smooth 1000000000", "0 0"), ("smooth 999999999", "-1 1")])

    def test_bad_tolerance(self):
        for number in (-1, 1000000001, 9999999999, -9999999999, -1000000000):
            self.check(Shell(Board(R)), [(f"{name} {number}", "error BadTolerance")
                                         for name in ("movement", "turns", "smooth")])

    def test_passages(self):
        self.check(Shell(Board(R)), [("passages 2 3", "3"), ("passages 1 4", "1"), ("passages 0 7", "1"),
                                     ("passages -1 0", "0"), ("passages -1 9", "0"), ("passages 0 8", "0")])
        self.check(Shell(Board((-LIMIT, LIMIT) * 12)), [("passages -1000000000 1000000000", "12"),
                                                        ("passages -1000000001 1000000000", "0"),
                                                        ("passages -1000000000 1000000001", "0"),
                                                        ("passages 0 1", "12")])

    def test_thresholds_beyond_the_limits(self):
        self.check(Shell(Board(R)), [("passages -9999999999 9999999999", "0"), ("passages 0 9999999999", "0"),
                                     ("passages -9999999999 0", "0"), ("passages 9999999998 9999999999", "0"),
                                     ("passages -9999999999 -9999999998", "0")])

    def test_thresholds_in_the_wrong_order(self):
        for low, high in ((3, 3), (3, 2), (0, -1), (0, 0), (9999999999, -9999999999), (9999999999, 9999999999),
                          (-9999999998, -9999999999), (10, 9)):
            self.check(Shell(Board(R)), [(f"passages {low} {high}", "error Thresholds")])
        self.check(Shell(Board((3,))), [("passages 3 3", "error Thresholds"), ("passages 3 4", "0")])

    def test_against_the_words(self):
        for ring in mixed_rings(60):
            shell = Shell(Board(ring))
            words = [".".join([low, "", high]) for low, high in
                     [tuple(number_texts(swing)) for swing in swings(ring)]]
            self.check(shell, [("ring", " ".join(number_texts(ring))), ("swings", " ".join(words) or "none")])
            for tolerance in tolerances(ring)[::4]:
                least = least_by_swings(ring, tolerance)
                self.check(shell, [(f"movement {tolerance}", str(least[0])), (f"turns {tolerance}", str(least[1])),
                                   (f"smooth {tolerance}", " ".join(number_texts(lazy_ring(ring, tolerance))))])
            for low, high in itertools.combinations(sorted(set(ring))[:6], 2):
                self.check(shell, [(f"passages {low} {high}", str(len(passages(ring, low, high))))])

    def test_queries_change_nothing(self):
        board = Board(R)
        board.put(0, 1)
        for _ in range(2):
            self.check(Shell(board), [("ring", "1 5 2 7 1 3"), ("swings", "1..3 1..7 2..5"), ("movement 1", "10"),
                                      ("turns 1", "4"), ("passages 1 2", "2"), ("smooth 9", "1 1 1 1 1 1")])
            self.assertEqual(board.edits(), (("put", 0, 1),))


class UnknownTest(ShellCase):
    def test_too_few_and_too_many_words(self):
        self.check_unknown([" ".join([name] + ["0"] * count) for name, right in COUNTS.items()
                            for count in range(6) if count != right])

    def test_wrong_numbers(self):
        for name, count in COUNTS.items():
            for at in range(count):
                for word in NO_NUMBERS:
                    words = ["0"] * count
                    words[at] = word
                    self.check_unknown([" ".join([name, *words])])

    def test_spaces_and_line_feeds(self):
        for name, count in COUNTS.items():
            line = " ".join([name] + ["0"] * count)
            self.check_unknown([line + " ", " " + line, line + "\n", "\n" + line, line + "\nring", line.upper(),
                                line.replace(" ", "  ", 1) if count else line + "  ", line + " \n", line + ";"])
            if count:
                self.check_unknown([line.replace(" ", "\n"), line.replace(" ", ""), line.replace(" ", ",")])

    def test_other_names(self):
        self.check_unknown(["", " ", "\n", "set 0 0", "attempt 0", "edits", "bounds", "len", "str", "version", "help",
                            "execute ring", "__init__ 0", "keep 0 0", "go_back 0", "error", "ok", "unknown command",
                            "Ring", "RING", "rings", "rin", "passage 0 1", "Put 0 0", "0", "0 0", "ring ring",
                            "undo undo", "x" * 2000, " " * 2000, "ring version=0", "smooth", "turns", "movement"])

    def test_values_that_are_not_texts(self):
        self.check_unknown([value for value in [*OTHER_VALUES, *nested_values()]])
        self.check_unknown([None, True, 0, ["ring"], ("ring",), {"ring": 0}, b"ring", ("put", 0, 0), ["put", "0", "0"],
                            [], (), {}, [["ring"]]])

    def test_numbers_of_ten_and_of_eleven_digits(self):
        self.check(Shell(Board(R)), [("put 0 9999999999", "error BadHeight"), ("put 0 10000000000", UNKNOWN),
                                     ("put -9999999999 0", "error NoPlace"), ("put -10000000000 0", UNKNOWN),
                                     ("movement 9999999999", "error BadTolerance"), ("movement 10000000000", UNKNOWN),
                                     ("passages 0 9999999999", "0"), ("passages 0 10000000000", UNKNOWN),
                                     ("passages 5 00000000001", UNKNOWN)])

    def test_unknown_comes_before_errors(self):
        self.check(Shell(Board((3,))), [("put 9 -0", UNKNOWN), ("remove 0 0", UNKNOWN), ("undo 0", UNKNOWN),
                                        ("passages 3 +2", UNKNOWN), ("passages 3", UNKNOWN), ("smooth --1", UNKNOWN)])


class BoardsTest(ShellCase):
    def test_two_shells_on_one_board(self):
        board = Board((0, 5))
        one, other = Shell(board), Shell(board)
        self.check(one, [("put 0 1", "ok 1")])
        self.check(other, [("ring", "1 5"), ("insert 2 9", "ok 2"), ("undo", "ok 1")])
        self.check(one, [("ring", "1 5"), ("undo", "ok 0")])
        self.check(other, [("undo", "error NothingToUndo"), ("ring", "0 5")])

    def test_two_boards(self):
        one, other = Shell(Board((0, 5))), Shell(Board((0, 5)))
        self.check(one, [("put 0 1", "ok 1"), ("ring", "1 5")])
        self.check(other, [("ring", "0 5"), ("undo", "error NothingToUndo")])

    def test_boards_that_are_edited_between_two_commands(self):
        board = Board((0, 5))
        shell = Shell(board)
        self.check(shell, [("put 0 1", "ok 1")])
        board.insert(2, 9)
        self.check(shell, [("ring", "1 5 9"), ("swings", "1..9"), ("turns 0", "2"), ("put 2 0", "ok 3")])
        self.assertEqual(board.edits(), (("put", 0, 1), ("insert", 2, 9), ("put", 2, 0)))
        board.attempt([("remove", 0), ("remove", 0)])
        self.check(shell, [("ring", "0"), ("remove 0", "error LastPlace"), ("passages 0 1", "0")])
        board.undo()
        self.check(shell, [("ring", "5 0"), ("undo", "ok 3"), ("smooth 1", "1 4 1"), ("movement 0", "10")])
        self.assertEqual(board.ring(), (1, 5, 0))

    def test_it_is_the_very_board(self):
        board = Board((0, 5))
        Shell(board).execute("put 0 3")
        self.assertEqual((board.ring(), len(board)), ((3, 5), 1))

    def test_a_calm_board(self):
        board = CalmBoard((0, 5, 4, 7), 1, 2)
        self.check(Shell(board), [("put 2 2", "error Restless"), ("insert 2 2", "error Restless"), ("ring", "0 5 4 7"),
                                  ("put 9 2", "error NoPlace"), ("put 2 9999999999", "error BadHeight"),
                                  ("undo", "error NothingToUndo"), ("put 2 3", "ok 1"), ("turns 1", "2"),
                                  ("turns 0", "4"), ("swings", "0..7 3..5"), ("undo", "ok 0"),
                                  ("smooth -1", "error BadTolerance"), ("remove 2", "ok 1"), ("bounds", UNKNOWN)])
        self.assertEqual(board.ring(), (0, 5, 7))
        board = CalmBoard((0, 9, 8, 0), 1, 2)
        self.check(Shell(board), [("put 2 2", "ok 1"), ("insert 3 9", "error Restless"), ("remove 1", "ok 2")])

    def test_every_error_of_a_board(self):
        answers = set()
        for seed, ring in enumerate(((0,), (0, 5), R, LONG, (3, 1) * 11)):
            answers |= self.run_history(seed, Board(ring), Board(ring))
            limits = (1, max(2, least_by_swings(ring, 1)[1]))
            answers |= self.run_history(seed, CalmBoard(ring, *limits), CalmBoard(ring, *limits))
        self.assertEqual(answers, {"TooManyEdits", "NoPlace", "BadHeight", "TooLong", "LastPlace", "Restless",
                                   "NothingToUndo", "BadTolerance"})

    def run_history(self, seed, board, twin):
        """A shell answers as the methods do on a twin of its board; returns the names of the errors."""
        source = random.Random(seed)
        shell, names = Shell(board), set()
        for _ in range(250):
            name = source.choice(("put", "put", "insert", "insert", "remove", "undo", "movement", "turns", "smooth"))
            place, height = source.randint(-1, len(twin.ring()) + 1), source.choice((0, 3, 7, LIMIT, LIMIT + 1, -4))
            if len(twin.ring()) < 5 and name == "insert":
                name = "remove"
            values = {"put": [place, height], "insert": [place, height], "undo": []}.get(name, [place])
            answer = shell.execute(" ".join([name, *map(str, values)]))
            try:
                if name in ("movement", "turns"):
                    expected = str(getattr(twin, name)(tolerance=place))
                elif name == "smooth":
                    expected = " ".join(map(str, twin.smooth(place)[0]))
                else:
                    expected = f"ok {getattr(twin, name)(*values)}"
            except (errors.RingError, LookupError) as error:
                names.add(type(error).__name__)
                expected = "error " + type(error).__name__
            self.assertEqual(answer, expected)
            self.assertEqual((board.ring(), board.edits()), (twin.ring(), twin.edits()))
        return names


if __name__ == "__main__":
    unittest.main()
