"""The examples of points 4 to 19, as the document writes them.

[4]

    >>> from ringswings.rings import is_ring
    >>> [is_ring((0, 5)), is_ring(()), is_ring((0, True))]
    [True, False, False]

    >>> from ringswings.rings import ring_error
    >>> ring_error((0, 10 ** 9 + 1))
    (1, 'height')

[5]

    >>> from ringswings.rings import turning_places
    >>> [turning_places((0, 5, 5, 2, 7, 3)), turning_places((4, 4))]
    [(0, 1, 3, 4), ()]

    >>> from ringswings.rings import movement_of
    >>> movement_of((0, 5, 2, 7, 1, 3))
    24

[6]

    >>> from ringswings.swings import passage_places
    >>> R = (0, 5, 2, 7, 1, 3)
    >>> [passage_places(R, 2, 3), passage_places(R, 1, 4)]
    [(0, 2, 4), (0,)]

    >>> from ringswings.swings import count_passages
    >>> count_passages((0, 5, 2, 7, 1, 3), 2, 3)
    3

[7]

    >>> from ringswings.swings import swings_of
    >>> swings_of((0, 5, 2, 7, 1, 3))
    ((0, 7), (1, 3), (2, 5))

[8]

    >>> from ringswings.swings import find_removal, removal_holds
    >>> R = (0, 5, 2, 7, 1, 3)
    >>> removal_holds(R, find_removal(R))
    True

    >>> from ringswings.swings import removal_holds
    >>> R = (0, 5, 2, 7, 1, 3)
    >>> [removal_holds(R, ((4, 5), (2, 1), (0, 3))), removal_holds(R, ((0, 3), (4, 5), (2, 1)))]
    [True, False]

    >>> from ringswings.swings import are_alike
    >>> are_alike((0, 5, 2, 7), (2, 7, 0, 5))
    True

    >>> from ringswings.swings import find_difference
    >>> find_difference((0, 5, 2, 7), (0, 7))
    (2, 3)

[9]

    >>> from ringswings.shapes import is_collection
    >>> [is_collection(((0, 7), (1, 3))), is_collection(((0, 3), (1, 7)))]
    [True, False]

    >>> from ringswings.shapes import make_ring
    >>> make_ring(((0, 7), (1, 3), (2, 5)))
    (0, 3, 1, 5, 2, 7)

    >>> from ringswings.shapes import plain_ring
    >>> plain_ring((0, 5, 2, 7, 1, 3))
    (0, 3, 1, 5, 2, 7)

[10]

    >>> from ringswings.orders import count_rings
    >>> count_rings(((0, 7), (1, 3), (2, 5)))
    4

    >>> from ringswings.orders import ring_at
    >>> [ring_at(((0, 7), (1, 3), (2, 5)), 0), ring_at(((0, 7), (1, 3), (2, 5)), 3)]
    [(0, 3, 1, 5, 2, 7), (0, 7, 2, 5, 1, 3)]

    >>> from ringswings.orders import ring_index
    >>> ring_index((5, 1, 3, 0, 7, 2))
    3

[11]

    >>> from ringswings.smoothing import lazy_ring
    >>> lazy_ring((0, 5, 2, 7, 1, 3), 1)
    (1, 4, 3, 6, 2, 2)

    >>> from ringswings.smoothing import least_movement
    >>> least_movement((0, 5, 2, 7, 1, 3), 1)
    12

    >>> from ringswings.smoothing import least_turns
    >>> least_turns((0, 5, 2, 7, 1, 3), 1)
    4

    >>> from ringswings.smoothing import find_zigzag, zigzag_bound
    >>> R = (0, 5, 2, 7, 1, 3)
    >>> zigzag_bound(R, 1, find_zigzag(R, 1))
    12

    >>> from ringswings.smoothing import zigzag_bound
    >>> R = (0, 5, 2, 7, 1, 3)
    >>> [zigzag_bound(R, 1, (0, 1, 2, 3)), zigzag_bound(R, 1, (4, 5)), zigzag_bound(R, 0, (4, 5))]
    [12, None, 4]

    >>> from ringswings.smoothing import smoothing_holds
    >>> smoothing_holds((0, 5, 2, 7, 1, 3), 1, ((1, 4, 3, 6, 2, 2), (0, 1, 2, 3)))
    True

    >>> from ringswings.smoothing import tolerance_for_turns
    >>> [tolerance_for_turns((0, 5, 2, 7, 1, 3), 2), tolerance_for_turns((0, 5, 2, 7, 1, 3), 0)]
    [2, 4]

    >>> from ringswings.smoothing import tolerance_for_movement
    >>> tolerance_for_movement((0, 5, 2, 7, 1, 3), 11)
    2

[12]

    >>> from ringswings.changing import set_height, insert_height, remove_place
    >>> [set_height((0, 5), 1, 4), insert_height((0, 5), 2, 3), remove_place((0, 5, 2), 0)]
    [(0, 4), (0, 5, 3), (5, 2)]

    >>> from ringswings.changing import backward, turned
    >>> [turned((0, 5, 2), 1), backward((0, 5, 2))]
    [(5, 2, 0), (2, 5, 0)]

    >>> from ringswings.changing import reflected, scaled
    >>> [reflected((0, 5, 2), 5), scaled((0, 5, 2), 2, 1)]
    [(5, 0, 3), (1, 11, 5)]

    >>> from ringswings.changing import repeated
    >>> repeated((0, 5), 2)
    (0, 5, 0, 5)

[13]

    >>> from ringswings.changing import step_effect
    >>> R = (0, 5, 2, 7, 1, 3)
    >>> [step_effect(R, 5, 1), step_effect(R, 2, -1), step_effect((0, 1), 1, -1)]
    [('moved', (1, 3), (1, 4)), ('moved', (2, 5), (1, 5)), ('gone', (0, 1))]

[14]

    >>> from ringswings.pairing import find_pairing
    >>> [find_pairing((0, 5, 2, 7), (1, 6), 2), find_pairing((0, 5, 2, 7), (1, 6), 1)]
    [((0, 0),), None]

    >>> from ringswings.pairing import pairing_holds
    >>> [pairing_holds((0, 5, 2, 7), (1, 6), 2, ((0, 0),)), pairing_holds((0, 5, 2, 7), (1, 6), 1, ((0, 0),))]
    [True, False]

    >>> from ringswings.pairing import swing_distance
    >>> swing_distance((0, 5, 2, 7), (1, 6))
    2

[15]

    >>> from ringswings.boards import Board
    >>> str(Board((0, 5, 2, 7)))
    '4 places, 4 turns, 0 edits'

    >>> from ringswings.boards import Board
    >>> board = Board((0, 5))
    >>> [board.insert(2, 3), board.ring()]
    [1, (0, 5, 3)]

    >>> from ringswings.boards import Board
    >>> board = Board((0, 5))
    >>> [board.remove(0), board.undo(), board.ring()]
    [1, 0, (0, 5)]

    >>> from ringswings.boards import Board
    >>> board = Board((0, 5))
    >>> board.attempt([('put', 0, 1), ('remove', 2)])
    raises Rejected(1)

[16]

    >>> from ringswings.boards import Board
    >>> board = Board((0, 5, 2, 7))
    >>> [board.put(2, 5), board.swings(), board.swings(version=0)]
    [1, ((0, 7),), ((0, 7), (2, 5))]

    >>> from ringswings.boards import Board
    >>> board = Board((0, 5, 2, 7))
    >>> [board.movement(), board.movement(tolerance=1), board.turns(tolerance=2)]
    [20, 12, 2]

    >>> from ringswings.boards import Board
    >>> from ringswings.smoothing import smoothing_holds
    >>> board = Board((0, 5, 2, 7))
    >>> smoothing_holds((0, 5, 2, 7), 1, board.smooth(1))
    True

    >>> from ringswings.boards import Board
    >>> board = Board((0, 5))
    >>> [board.put(0, 1), board.edits()]
    [1, (('put', 0, 1),)]

    >>> from ringswings.boards import Board
    >>> [len(Board((0,))), Board((0, 5)) == Board((5, 0))]
    [0, False]

[17]

    >>> from ringswings.boards import CalmBoard
    >>> board = CalmBoard((0, 5, 4, 7), 1, 2)
    >>> board.put(2, 2)
    raises Restless(4)

    >>> from ringswings.boards import CalmBoard
    >>> CalmBoard((0, 5, 4, 7), 1, 2).bounds()
    (1, 2)

[18]

    >>> from ringswings.texts import ring_text, swings_text
    >>> [ring_text((0, -5, 2)), swings_text(((0, 7), (1, 3))), swings_text(())]
    ['0 -5 2', '0..7 1..3', 'none']

    >>> from ringswings.texts import parse_ring
    >>> parse_ring('0 05')
    raises BadText(1)

    >>> from ringswings.texts import parse_swings
    >>> parse_swings('0..3 1..7')
    raises BadText(2)

[19]

    >>> from ringswings.boards import Board
    >>> from ringswings.shells import Shell
    >>> Shell(Board((0, 5))).execute('ring')
    '0 5'

    >>> from ringswings.boards import Board
    >>> from ringswings.shells import Shell
    >>> shell = Shell(Board((0, 5, 2, 7)))
    >>> [shell.execute('swings'), shell.execute('passages 2 3'), shell.execute('put 4 1'), shell.execute('remove 1'), shell.execute('turns 0')]
    ['0..7 2..5', '2', 'error NoPlace', 'ok 1', '2']
"""

import doctest
import re
import sys


class DocumentParser(doctest.DocTestParser):
    """Reads "raises Rejected(1)" as an error of this class whose fields are these."""

    def parse(self, string, name="<string>"):
        raised = r"^( *)raises (\w+)\((.*)\)$"
        trace = r"\1Traceback (most recent call last):\n\1ringswings.errors.\2: \3"
        return super().parse(re.sub(raised, trace, string, flags=re.MULTILINE), name)


def load_tests(loader, tests, pattern):
    finder = doctest.DocTestFinder(parser=DocumentParser())
    tests.addTests(doctest.DocTestSuite(sys.modules[__name__], test_finder=finder))
    tests.addTests(doctest.DocFileSuite("../README.md"))
    return tests
