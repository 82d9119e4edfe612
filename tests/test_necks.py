"""Points 2 and 3: necks."""

import unittest

from fretways.errors import BadNeck
from fretways.necks import bare, missing, notes, places
from shared_by_tests import BAD_NECKS, RefusalCase

GUITAR = ((16, 21, 26, 31, 35, 40), 20, 0)

# At every edge that the document names for a neck.
NECKS = [
    ((0,), 0, 0),
    ((60,), 0, 0),
    ((60,), 20, 0),
    ((0,), 20, 20),
    ((30,), 5, 2),
    ((40, 45, 50), 7, 2),
    ((50, 40, 45), 7, 7),
    ((40, 40), 3, 1),
    ((0, 60, 0, 60, 0, 60), 20, 0),
    ((0, 12, 24, 36, 48, 40), 20, 20),
    GUITAR,
]


def places_by_hand(neck):
    """All (string, place, note) of a neck, by the words of point 2."""
    tuning, frets, capo = neck
    found = []
    for string in range(len(tuning)):
        fret = capo
        while fret <= frets:
            found.append((string, fret, tuning[string] + fret))
            fret += 1
    return found


class NotesTest(RefusalCase):
    def test_ordinary_necks(self):
        self.assertEqual(notes(((10, 13), 4, 0)), [10, 11, 12, 13, 14, 15, 16, 17])
        self.assertEqual(notes(((0, 10), 3, 0)), [0, 1, 2, 3, 10, 11, 12, 13])

    def test_strings_in_any_order_tell_rising_notes_each_once(self):
        self.assertEqual(notes(((30, 10, 30, 11), 1, 0)), [10, 11, 12, 30, 31])

    def test_places_begin_at_the_capo(self):
        self.assertEqual(notes(((0, 10), 3, 1)), [1, 2, 3, 11, 12, 13])
        self.assertEqual(notes(((0, 10), 3, 3)), [3, 13])

    def test_edges(self):
        self.assertEqual(notes(((0,), 0, 0)), [0])
        self.assertEqual(notes(((60,), 0, 0)), [60])
        self.assertEqual(notes(((60,), 20, 0)), list(range(60, 81)))
        self.assertEqual(notes(((60,), 20, 20)), [80])
        self.assertEqual(notes(GUITAR), list(range(16, 61)))
        self.assertEqual(notes(((0, 1, 2, 3, 4, 60), 0, 0)), [0, 1, 2, 3, 4, 60])

    def test_all_places_are_counted(self):
        for neck in NECKS:
            with self.subTest(neck=neck):
                self.assertEqual(notes(neck), sorted({note for _, _, note in places_by_hand(neck)}))


class MissingTest(RefusalCase):
    def test_ordinary_necks(self):
        self.assertEqual(missing(((0, 10), 3, 0)), [4, 5, 6, 7, 8, 9])
        self.assertEqual(missing(((0, 10), 3, 1)), [4, 5, 6, 7, 8, 9, 10])
        self.assertEqual(missing(((20, 0, 10), 8, 0)), [9, 19])

    def test_none_missing(self):
        self.assertEqual(missing(((0,), 20, 0)), [])
        self.assertEqual(missing(((10, 14), 3, 0)), [])
        self.assertEqual(missing(GUITAR), [])

    def test_edges(self):
        self.assertEqual(missing(((30,), 0, 0)), [])
        self.assertEqual(missing(((30, 30), 0, 0)), [])
        self.assertEqual(missing(((30, 32), 0, 0)), [31])
        self.assertEqual(missing(((0, 60), 0, 0)), list(range(1, 60)))
        self.assertEqual(missing(((0, 60), 20, 20)), list(range(21, 80)))

    def test_missing_and_notes_fill_the_whole(self):
        for neck in NECKS:
            with self.subTest(neck=neck):
                heard = notes(neck)
                self.assertEqual(sorted(heard + missing(neck)), list(range(heard[0], heard[-1] + 1)))


class PlacesTest(RefusalCase):
    def test_ordinary_necks(self):
        self.assertEqual(places(((40, 45, 50), 12, 0), 50), [(0, 10), (1, 5), (2, 0)])
        self.assertEqual(places(((50, 45, 40), 12, 0), 50), [(0, 0), (1, 5), (2, 10)])
        self.assertEqual(places(((40, 45, 50), 9, 0), 50), [(1, 5), (2, 0)])

    def test_like_strings_sound_a_note_at_like_places(self):
        self.assertEqual(places(((40, 40), 5, 0), 43), [(0, 3), (1, 3)])

    def test_just_at_the_capo_and_at_the_last_fret_and_beyond(self):
        neck = ((40,), 5, 2)
        self.assertEqual(places(neck, 41), [])
        self.assertEqual(places(neck, 42), [(0, 2)])
        self.assertEqual(places(neck, 45), [(0, 5)])
        self.assertEqual(places(neck, 46), [])

    def test_notes_that_no_place_sounds(self):
        for note in (-1000, -1, 4, 9, 14, 81, 100000):
            self.assertEqual(places(((0, 10), 3, 0), note), [])

    def test_the_greatest_note(self):
        self.assertEqual(places(((60,), 20, 0), 80), [(0, 20)])
        self.assertEqual(places(((60,), 20, 20), 80), [(0, 20)])
        self.assertEqual(places(((60,), 20, 0), 81), [])

    def test_all_places_are_told(self):
        for neck in NECKS:
            for note in range(-2, 84):
                with self.subTest(neck=neck, note=note):
                    wanted = [(s, fret) for s, fret, heard in places_by_hand(neck) if heard == note]
                    self.assertEqual(places(neck, note), wanted)


class BareTest(RefusalCase):
    def test_ordinary_necks(self):
        self.assertEqual(bare(((40, 45), 12, 3)), ((43, 48), 9, 0))
        self.assertEqual(bare(((45, 40), 12, 0)), ((45, 40), 12, 0))

    def test_edges(self):
        self.assertEqual(bare(((0,), 20, 20)), ((20,), 0, 0))
        self.assertEqual(bare(((0,), 0, 0)), ((0,), 0, 0))
        self.assertEqual(bare(((60,), 20, 0)), ((60,), 20, 0))
        self.assertEqual(bare(((59, 1), 5, 1)), ((60, 2), 4, 0))
        self.assertEqual(bare(((40, 0, 0, 0, 0, 0), 20, 20)), ((60, 20, 20, 20, 20, 20), 0, 0))

    def test_notes_that_would_pass_60_are_refused(self):
        for neck in [((60,), 1, 1), ((59,), 5, 2), ((0, 41), 20, 20), ((60, 0), 20, 20), ((50, 58, 50), 9, 3)]:
            self.assert_refused(BadNeck, bare, neck)

    def test_it_sounds_the_same(self):
        for neck in NECKS:
            tuning, _, capo = neck
            if max(tuning) + capo > 60:
                continue
            with self.subTest(neck=neck):
                same = bare(neck)
                self.assertEqual(same[2], 0)
                self.assertEqual(notes(same), notes(neck))
                self.assertEqual(missing(same), missing(neck))
                for note in range(-1, 82):
                    wanted = [(string, fret - capo) for string, fret in places(neck, note)]
                    self.assertEqual(places(same, note), wanted)
                self.assertEqual(bare(same), same)


class BadNeckTest(RefusalCase):
    def test_all_functions_refuse_what_is_no_neck(self):
        for neck in BAD_NECKS:
            self.assert_refused(BadNeck, notes, neck)
            self.assert_refused(BadNeck, missing, neck)
            self.assert_refused(BadNeck, places, neck, 40)
            self.assert_refused(BadNeck, bare, neck)

    def test_edges_are_no_faults(self):
        for neck in NECKS:
            tuning, frets, capo = neck
            self.assertEqual(notes(neck)[0], min(tuning) + capo)
            self.assertEqual(notes(neck)[-1], max(tuning) + frets)


if __name__ == "__main__":
    unittest.main()
