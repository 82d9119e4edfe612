"""Point 1: nothing handed in is changed or kept, and whatever is asked again is answered with the same."""

import unittest
from copy import deepcopy

from fretways.necks import bare, missing, notes, places
from fretways.notes import read, written
from fretways.shapes import apart, can_lay, slid, sounded, ways
from fretways.tunes import movement, played, table
from fretways.tunings import retuned

NECK = ((40, 45, 50), 12, 2)

QUESTIONS = [
    (notes, (NECK,)),
    (missing, (((0, 30), 4, 1),)),
    (places, (NECK, 52)),
    (bare, (NECK,)),
    (ways, (NECK, (47, 52), (4, 3))),
    (sounded, (NECK, (3, -1, 2))),
    (slid, (NECK, (3, -1, 5), 2)),
    (apart, (NECK, (3, -1, 5), (5, -1, 7))),
    (can_lay, (NECK, (3, -1, 5), (2, 2))),
    (played, (NECK, [43, 62, 43, 43], 2)),
    (table, (NECK, [43, 62, 43, 43], 2)),
    (movement, ([(0, 3, 3), (2, 12, 10), (0, 3, 2)],)),
    (retuned, (NECK, [(42,), (48, 53)], (0, 1))),
    (written, (NECK, (3, -1, 12))),
    (read, (NECK, "12 x 3")),
]
WRONG_QUESTIONS = [
    (notes, (((61,), 3, 0),)),
    (ways, (NECK, (52, 47), (4, 3))),
    (sounded, (NECK, (3, -1))),
    (can_lay, (NECK, (3, -1, 5), (2, 7))),
    (played, (NECK, [43, 81], 2)),
    (table, (NECK, [43, 62], 7)),
    (retuned, (NECK, [(42,), (53, 48)], (0, 1))),
    (written, (NECK, (3, -1, 13))),
    (read, (NECK, "12 x 03")),
]


def lists_in(told):
    """All lists in what was told, inner ones too."""
    if not isinstance(told, (list, tuple)):
        return []
    found = [told] if isinstance(told, list) else []
    for part in told:
        found += lists_in(part)
    return found


def spoil(rows):
    """Change the list itself and what stands in it."""
    rows.reverse()
    rows.append(-99)
    del rows[0]


class AskedAgainTest(unittest.TestCase):
    def test_what_is_asked_again_is_answered_with_the_same(self):
        first = [function(*handed) for function, handed in QUESTIONS]
        for (function, handed), told in zip(reversed(QUESTIONS), reversed(first)):
            self.assertEqual(function(*deepcopy(handed)), told, function.__name__)

    def test_what_is_told_may_be_changed(self):
        changed = 0
        for function, handed in QUESTIONS:
            told = function(*handed)
            kept = deepcopy(told)
            for rows in lists_in(told):
                with self.subTest(function=function.__name__, rows=rows):
                    self.assertTrue(rows)
                    spoil(rows)
                    changed += 1
                    self.assertEqual(function(*handed), kept)
        # The lists of points 3, 5 and 6; a playing; a table of four rows; reasons.
        self.assertEqual(changed, 5 + 1 + 5 + 1)

    def test_no_list_is_told_twice(self):
        for function, handed in QUESTIONS:
            told = lists_in(function(*handed)) + lists_in(function(*handed))
            self.assertEqual(len({id(rows) for rows in told}), len(told), function.__name__)

    def test_a_changed_row_leaves_the_other_rows(self):
        rows = table(NECK, [42, 42, 42], 2)
        kept = deepcopy(rows)
        spoil(rows[1])
        self.assertEqual([rows[0], rows[2]], [kept[0], kept[2]])

    def test_what_is_handed_in_may_be_changed_later(self):
        for function, handed in QUESTIONS:
            for number in range(len(lists_in(handed))):
                given = deepcopy(handed)
                told = function(*given)
                kept = deepcopy(told)
                spoil(lists_in(given)[number])
                self.assertEqual(told, kept, function.__name__)
                self.assertEqual(function(*handed), kept, function.__name__)

    def test_what_is_told_holds_no_list_that_was_handed_in(self):
        for function, handed in QUESTIONS:
            told = lists_in(function(*handed))
            for given in lists_in(handed):
                self.assertFalse([rows for rows in told if rows is given], function.__name__)

    def test_an_empty_list_that_was_told_may_be_changed(self):
        for function, handed in [
            (missing, (((0,), 4, 1),)),
            (places, (NECK, 5)),
            (ways, (NECK, (5,), (6, 6))),
            (sounded, (NECK, (-1, -1, -1))),
        ]:
            told = function(*handed)
            self.assertEqual(told, [])
            told.append(7)
            self.assertEqual(function(*handed), [])

    def test_empty_reasons_may_be_changed(self):
        for chords in ([], [(42,)]):
            retuning, reasons = retuned(NECK, chords, (0, 0))
            self.assertEqual(reasons, [])
            reasons.append((retuning, 0))
            self.assertEqual(retuned(NECK, chords, (0, 0)), ((0, 0, 0), []))

    def test_what_is_handed_in_is_as_before(self):
        for function, handed in QUESTIONS:
            before = deepcopy(handed)
            function(*handed)
            self.assertEqual(handed, before, function.__name__)

    def test_a_refusal_changes_nothing(self):
        first = [function(*handed) for function, handed in QUESTIONS]
        for function, handed in WRONG_QUESTIONS:
            for _ in range(2):
                with self.assertRaises(ValueError):
                    function(*handed)
        self.assertEqual([function(*handed) for function, handed in QUESTIONS], first)

    def test_the_kinds_of_what_is_told(self):
        kinds = [list, list, list, tuple, list, list, tuple, int, bool, tuple, list, int, tuple, str, tuple]
        self.assertEqual(len(kinds), len(QUESTIONS))
        for (function, handed), kind in zip(QUESTIONS, kinds):
            self.assertIs(function(*handed).__class__, kind, function.__name__)
        self.assertEqual({item.__class__ for item in places(NECK, 52)}, {tuple})
        self.assertEqual({item.__class__ for item in ways(NECK, (47, 52), (4, 3))}, {tuple})
        self.assertIs(bare(NECK)[0].__class__, tuple)
        self.assertEqual({row.__class__ for row in table(NECK, [43, 62], 2)}, {list})


if __name__ == "__main__":
    unittest.main()
