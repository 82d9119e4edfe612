"""Point 1: nothing handed in is changed or kept, and whatever is asked again is answered with the same."""

import unittest
from copy import deepcopy

from fretways.necks import bare, missing, notes, places
from fretways.shapes import apart, can_lay, slid, sounded, ways

NECK = ((40, 45, 50), 12, 2)

QUESTIONS = [
    (notes, (NECK,)),
    (missing, (((0, 30), 4, 1),)),
    (places, (NECK, 52)),
    (bare, (NECK,)),
    (ways, (NECK, (47, 52), (4, 3))),
    (sounded, (NECK, (3, -1, 2))),
    (slid, (NECK, (3, -1, 5), 2)),
    (apart, (NECK, (3, -1, 5), (5, -1, 7))),
    (can_lay, (NECK, (3, -1, 5), (2, 2))),
]
WRONG_QUESTIONS = [
    (notes, (((61,), 3, 0),)),
    (ways, (NECK, (52, 47), (4, 3))),
    (sounded, (NECK, (3, -1))),
    (can_lay, (NECK, (3, -1, 5), (2, 7))),
]


class AskedAgainTest(unittest.TestCase):
    def test_what_is_asked_again_is_answered_with_the_same(self):
        first = [function(*handed) for function, handed in QUESTIONS]
        for (function, handed), told in zip(reversed(QUESTIONS), reversed(first)):
            self.assertEqual(function(*deepcopy(handed)), told, function.__name__)

    def test_what_is_told_may_be_changed(self):
        for function, handed in QUESTIONS:
            told = function(*handed)
            if not isinstance(told, list):
                continue
            with self.subTest(function=function.__name__):
                kept = list(told)
                self.assertTrue(kept)
                told.reverse()
                told.append(-99)
                del told[0]
                self.assertEqual(function(*handed), kept)
                self.assertIsNot(function(*handed), function(*handed))

    def test_an_empty_list_that_was_told_may_be_changed(self):
        for function, handed in [
            (missing, (((0,), 4, 1),)),
            (places, (NECK, 5)),
            (ways, (NECK, (5,), (6, 6))),
            (sounded, (NECK, (-1, -1, -1))),
        ]:
            told = function(*handed)
            self.assertEqual(told, [])
            told.append(7)
            self.assertEqual(function(*handed), [])

    def test_what_is_handed_in_is_as_before(self):
        for function, handed in QUESTIONS:
            before = deepcopy(handed)
            function(*handed)
            self.assertEqual(handed, before, function.__name__)

    def test_a_refusal_changes_nothing(self):
        first = [function(*handed) for function, handed in QUESTIONS]
        for function, handed in WRONG_QUESTIONS:
            for _ in range(2):
                with self.assertRaises(ValueError):
                    function(*handed)
        self.assertEqual([function(*handed) for function, handed in QUESTIONS], first)

    def test_the_kinds_of_what_is_told(self):
        kinds = [list, list, list, tuple, list, list, tuple, int, bool]
        for (function, handed), kind in zip(QUESTIONS, kinds):
            self.assertIs(function(*handed).__class__, kind, function.__name__)
        self.assertEqual({item.__class__ for item in places(NECK, 52)}, {tuple})
        self.assertEqual({item.__class__ for item in ways(NECK, (47, 52), (4, 3))}, {tuple})
        self.assertIs(bare(NECK)[0].__class__, tuple)


if __name__ == "__main__":
    unittest.main()
