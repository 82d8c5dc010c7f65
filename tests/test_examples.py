"""The examples of points 4 to 9, as the document writes them.

[4]

    >>> from ringswings.rings import is_ring
    >>> [is_ring((0, 5)), is_ring(()), is_ring((0, True))]
    [True, False, False]

    >>> from ringswings.rings import ring_error
    >>> ring_error((0, 10 ** 9 + 1))
    (1, 'height')

[5]

    >>> from ringswings.rings import turning_places
    >>> [turning_places((0, 5, 5, 2, 7, 3)), turning_places((4, 4))]
    [(0, 1, 3, 4), ()]

    >>> from ringswings.rings import movement_of
    >>> movement_of((0, 5, 2, 7, 1, 3))
    24

[6]

    >>> from ringswings.swings import passage_places
    >>> R = (0, 5, 2, 7, 1, 3)
    >>> [passage_places(R, 2, 3), passage_places(R, 1, 4)]
    [(0, 2, 4), (0,)]

    >>> from ringswings.swings import count_passages
    >>> count_passages((0, 5, 2, 7, 1, 3), 2, 3)
    3

[7]

    >>> from ringswings.swings import swings_of
    >>> swings_of((0, 5, 2, 7, 1, 3))
    ((0, 7), (1, 3), (2, 5))

[8]

    >>> from ringswings.swings import find_removal, removal_holds
    >>> R = (0, 5, 2, 7, 1, 3)
    >>> removal_holds(R, find_removal(R))
    True

    >>> from ringswings.swings import removal_holds
    >>> R = (0, 5, 2, 7, 1, 3)
    >>> [removal_holds(R, ((4, 5), (2, 1), (0, 3))), removal_holds(R, ((0, 3), (4, 5), (2, 1)))]
    [True, False]

    >>> from ringswings.swings import are_alike
    >>> are_alike((0, 5, 2, 7), (2, 7, 0, 5))
    True

    >>> from ringswings.swings import find_difference
    >>> find_difference((0, 5, 2, 7), (0, 7))
    (2, 3)

[9]

    >>> from ringswings.shapes import is_collection
    >>> [is_collection(((0, 7), (1, 3))), is_collection(((0, 3), (1, 7)))]
    [True, False]

    >>> from ringswings.shapes import make_ring
    >>> make_ring(((0, 7), (1, 3), (2, 5)))
    (0, 3, 1, 5, 2, 7)

    >>> from ringswings.shapes import plain_ring
    >>> plain_ring((0, 5, 2, 7, 1, 3))
    (0, 3, 1, 5, 2, 7)
"""

import doctest
import sys


def load_tests(loader, tests, pattern):
    tests.addTests(doctest.DocTestSuite(sys.modules[__name__]))
    return tests
