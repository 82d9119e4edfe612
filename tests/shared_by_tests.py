"""What the tests share: wrong inputs, all shapes of a neck, and how a refusal is asserted."""

import unittest
from itertools import product

from fretways import errors

KINDS = (errors.BadNeck, errors.BadShape, errors.BadHand, errors.BadChord, errors.BadTune, errors.BadText)

# Each beyond an edge of what a neck is, by one and by much.
BAD_NECKS = [
    ((), 5, 0),
    ((40,) * 7, 5, 0),
    (tuple(range(30)), 5, 0),
    ((-1,), 5, 0),
    ((61,), 5, 0),
    ((-1, 40), 5, 0),
    ((40, -300), 5, 0),
    ((40, 45, 61), 5, 0),
    ((40, 61, 45), 5, 0),
    ((1000, 40, 45), 5, 0),
    ((40,), -1, 0),
    ((40,), -1, -1),
    ((40,), -100, 0),
    ((40,), 21, 0),
    ((40,), 21, 21),
    ((40,), 500, 3),
    ((40,), 5, -1),
    ((40,), 5, -70),
    ((40,), 5, 6),
    ((40,), 5, 90),
    ((40,), 0, 1),
    ((40,), 20, 21),
]

BAD_HANDS = [
    (),
    (3,),
    (3, 3, 3),
    (3,) * 9,
    (-1, 3),
    (-50, 3),
    (7, 3),
    (400, 3),
    (3, -1),
    (3, -50),
    (3, 7),
    (3, 400),
    (-1, 7),
]

BAD_CHORDS = [
    (),
    (1, 2, 3, 4, 5, 6, 7),
    tuple(range(40)),
    (-1,),
    (-1, 40),
    (-90, 40),
    (81,),
    (40, 81),
    (40, 900),
    (40, 40),
    (40, 39),
    (40, 45, 45, 50),
    (40, 45, 50, 50),
    (40, 50, 45),
    (70, 60, 50, 40, 30, 20),
]

# A neck with the capo between, and what is no shape on it.
NECK = ((40, 45, 50), 7, 2)
BAD_SHAPES = [
    (),
    (3, 3),
    (3, 3, 3, 3),
    (3,) * 50,
    (-2, 3, 3),
    (3, -2, 3),
    (3, 3, -2),
    (3, 3, -80),
    (1, 3, 3),
    (0, 3, 3),
    (3, 3, 1),
    (3, 3, 8),
    (8, 3, 3),
    (3, 700, 3),
]


def all_shapes(neck):
    """All shapes of a neck, rising."""
    tuning, frets, capo = neck
    return list(product([-1] + list(range(capo, frets + 1)), repeat=len(tuning)))


class RefusalCase(unittest.TestCase):
    def assert_refused(self, kind, function, *handed):
        """Assert that the function refuses with just this kind, and return the refusal."""
        with self.subTest(function=function.__name__, handed=handed):
            with self.assertRaises(errors.NeckError) as caught:
                function(*handed)
            refusal = caught.exception
            self.assertIsInstance(refusal, ValueError)
            self.assertIsInstance(refusal, kind)
            for other in KINDS:
                if other is not kind:
                    self.assertNotIsInstance(refusal, other)
            return refusal
