"""Shells, which carry out commands that are written as lines of text on a board."""

from ringswings.errors import (
    BadHeight, BadTolerance, LastPlace, NoPlace, NothingToUndo, Restless, TooLong, TooManyEdits,
)
from ringswings.swings import count_passages
from ringswings.texts import is_number_text, ring_text, swings_text

# How many numbers each command takes.
COMMAND_NUMBERS = {
    "put": 2, "insert": 2, "remove": 1, "undo": 0, "ring": 0, "swings": 0, "movement": 1, "turns": 1, "passages": 2,
    "smooth": 1,
}


class Shell:
    """Answers commands on one board."""

    def __init__(self, board):
        self.board = board

    def execute(self, line):
        """Carry out any value as a command and return the answer."""
        words = line.split(" ") if isinstance(line, str) else []
        if not is_command(words):
            return "unknown command"
        return self.answer(words[0], [int(word) for word in words[1:]])

    def answer(self, name, numbers):
        """Return the answer to a command, also if the board raises an error."""
        # Each of the errors that a board raises for a command has its own handler, as each has its own name.
        try:
            return self.carry_out(name, numbers)
        except TooManyEdits:
            return "error TooManyEdits"
        except NoPlace:
            return "error NoPlace"
        except BadHeight:
            return "error BadHeight"
        except TooLong:
            return "error TooLong"
        except LastPlace:
            return "error LastPlace"
        except Restless:
            return "error Restless"
        except NothingToUndo:
            return "error NothingToUndo"
        except BadTolerance:
            return "error BadTolerance"

    def carry_out(self, name, numbers):
        """Call the method of the board for a command and return its result as a text."""
        if name == "put":
            return f"ok {self.board.put(numbers[0], numbers[1])}"
        if name == "insert":
            return f"ok {self.board.insert(numbers[0], numbers[1])}"
        if name == "remove":
            return f"ok {self.board.remove(numbers[0])}"
        if name == "undo":
            return f"ok {self.board.undo()}"
        return self.ask(name, numbers)

    def ask(self, name, numbers):
        """Return the answer to a command that changes nothing."""
        if name == "ring":
            return ring_text(self.board.ring())
        if name == "swings":
            return swings_text(self.board.swings())
        if name == "movement":
            return str(self.board.movement(tolerance=numbers[0]))
        if name == "turns":
            return str(self.board.turns(tolerance=numbers[0]))
        if name == "smooth":
            return ring_text(self.board.smooth(numbers[0])[0])
        return passages_text(self.board.ring(), numbers[0], numbers[1])


def is_command(words):
    """Return whether the words are the name of a command and as many numbers as it takes."""
    if not words or words[0] not in COMMAND_NUMBERS or len(words) != 1 + COMMAND_NUMBERS[words[0]]:
        return False
    return all([is_number_text(word) for word in words[1:]])


def passages_text(ring, low, high):
    """Return the number of passages as a text, or an error if the thresholds are in the wrong order."""
    if low >= high:
        return "error Thresholds"
    return str(count_passages(ring, low, high))
