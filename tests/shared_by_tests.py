"""What the tests share: wrong inputs, all shapes and ways of a neck, and how a refusal is asserted."""

import unittest
from itertools import product

from fretways import errors

KINDS = (errors.BadNeck, errors.BadShape, errors.BadHand, errors.BadChord, errors.BadTune, errors.BadText)

# Each beyond an edge of what a neck is, by one and by much.
BAD_NECKS = [
    ((), 5, 0),
    ((40,) * 7, 5, 0),
    (tuple(range(30)), 5, 0),
    ((-1,), 5, 0),
    ((61,), 5, 0),
    ((-1, 40), 5, 0),
    ((40, -300), 5, 0),
    ((40, 45, 61), 5, 0),
    ((40, 61, 45), 5, 0),
    ((1000, 40, 45), 5, 0),
    ((40,), -1, 0),
    ((40,), -1, -1),
    ((40,), -100, 0),
    ((40,), 21, 0),
    ((40,), 21, 21),
    ((40,), 500, 3),
    ((40,), 5, -1),
    ((40,), 5, -70),
    ((40,), 5, 6),
    ((40,), 5, 90),
    ((40,), 0, 1),
    ((40,), 20, 21),
]

BAD_HANDS = [
    (),
    (3,),
    (3, 3, 3),
    (3,) * 9,
    (-1, 3),
    (-50, 3),
    (7, 3),
    (400, 3),
    (3, -1),
    (3, -50),
    (3, 7),
    (3, 400),
    (-1, 7),
]

BAD_CHORDS = [
    (),
    (1, 2, 3, 4, 5, 6, 7),
    tuple(range(40)),
    (-1,),
    (-1, 40),
    (-90, 40),
    (81,),
    (40, 81),
    (40, 900),
    (40, 40),
    (40, 39),
    (40, 45, 45, 50),
    (40, 45, 50, 50),
    (40, 50, 45),
    (70, 60, 50, 40, 30, 20),
]

# Lists that hold a chord too many or a bad one, each with the number that the refusal tells.
BAD_CHORD_LISTS = [
    ([(40,)] * 7, 6),
    ([(40, 45)] * 50, 6),
    ([()] + [(40,)] * 6, 6),
    ([(40,)] * 6 + [()], 6),
    ([()] * 7, 6),
    ([()], 0),
    ([(), ()], 0),
    ([(40,), (81,)], 1),
    ([(40,), (45, 40), (-1,), (40,)], 1),
    ([(40,)] * 3 + [(40, 40)], 3),
    ([(40,)] * 5 + [(40, 900)], 5),
]
for _number in range(6):
    for _chord in BAD_CHORDS:
        BAD_CHORD_LISTS.append(([(40, 45)] * _number + [_chord] + [(40,)] * (5 - _number), _number))

BAD_TUNES = [
    [],
    [40] * 31,
    [40] * 300,
    [-1],
    [-1] * 31,
    [-60, 40],
    [81],
    [40, 81],
    [40, 45, 1000],
    [40, -1, 45],
    [40] * 29 + [81],
    [40] * 29 + [-1],
    [40, 81, 45],
]

BAD_REACHES = [-1, -40, 7, 300]

# A neck with the capo between, and what is no shape on it.
NECK = ((40, 45, 50), 7, 2)
BAD_SHAPES = [
    (),
    (3, 3),
    (3, 3, 3, 3),
    (3,) * 50,
    (-2, 3, 3),
    (3, -2, 3),
    (3, 3, -2),
    (3, 3, -80),
    (1, 3, 3),
    (0, 3, 3),
    (3, 3, 1),
    (3, 3, 8),
    (8, 3, 3),
    (3, 700, 3),
]


def all_shapes(neck):
    """All shapes of a neck, rising."""
    tuning, frets, capo = neck
    return list(product([-1] + list(range(capo, frets + 1)), repeat=len(tuning)))


def laid(neck, shape, hand):
    """Point 4 word by word, not by the program."""
    pressed = [place for place in shape if place > neck[2]]
    if len(pressed) > hand[1]:
        return False
    return not pressed or max(pressed) - min(pressed) <= hand[0]


def ways_by_hand(neck, chord, hand):
    """All ways of the chord, by trying all shapes of the neck one by one."""
    found = []
    for shape in all_shapes(neck):
        heard = sorted(note + place for note, place in zip(neck[0], shape) if place != -1)
        if heard == list(chord) and laid(neck, shape, hand):
            found.append(shape)
    return sorted(found)


class RefusalCase(unittest.TestCase):
    def assert_refused(self, kind, function, *handed):
        """Assert that the function refuses with just this kind, and return the refusal."""
        with self.subTest(function=function.__name__, handed=handed):
            with self.assertRaises(errors.NeckError) as caught:
                function(*handed)
            refusal = caught.exception
            self.assertIsInstance(refusal, ValueError)
            self.assertIsInstance(refusal, kind)
            for other in KINDS:
                if other is not kind:
                    self.assertNotIsInstance(refusal, other)
            return refusal
