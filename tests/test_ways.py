"""Points 5 and 7: chords, in all ways, and what follows of a slid shape."""

import unittest
from itertools import combinations, product

from fretways.errors import BadChord, BadHand, BadNeck
from fretways.necks import bare
from fretways.shapes import can_lay, slid, sounded, ways
from shared_by_tests import BAD_CHORDS, BAD_HANDS, BAD_NECKS, NECK, RefusalCase, all_shapes, ways_by_hand

HANDS = [(0, 0), (0, 1), (1, 2), (2, 3), (3, 2), (4, 4), (6, 6)]
NECKS = [((10, 12, 15), 5, 0), ((10, 12, 15), 5, 2), ((12, 10, 12), 4, 4), ((10,), 6, 1), ((11, 10, 13, 10), 3, 0)]


class WaysTest(RefusalCase):
    def test_one_note_in_all_ways(self):
        neck = ((40, 45, 50), 12, 0)
        self.assertEqual(ways(neck, (50,), (6, 6)), [(-1, -1, 0), (-1, 5, -1), (10, -1, -1)])
        self.assertEqual(ways(neck, (50,), (0, 0)), [(-1, -1, 0)])

    def test_more_notes_rising(self):
        neck = ((40, 45, 50), 12, 0)
        self.assertEqual(ways(neck, (45, 50), (6, 6)), [(-1, 0, 0), (5, -1, 0), (5, 5, -1), (10, 0, -1)])
        self.assertEqual(ways(neck, (45, 50), (0, 1)), [(-1, 0, 0), (5, -1, 0), (10, 0, -1)])

    def test_a_note_may_be_on_a_string_of_any_number(self):
        self.assertEqual(ways(((50, 40), 12, 0), (41, 52), (1, 2)), [(2, 1)])
        self.assertEqual(ways(((40, 40), 12, 0), (41, 42), (1, 2)), [(1, 2), (2, 1)])

    def test_the_hand(self):
        neck = ((40, 45), 12, 0)
        self.assertEqual(ways(neck, (41, 51), (5, 2)), [(1, 6)])
        self.assertEqual(ways(neck, (41, 51), (4, 2)), [])
        self.assertEqual(ways(neck, (41, 51), (5, 1)), [])

    def test_a_capo(self):
        neck = ((40, 45), 12, 5)
        self.assertEqual(ways(neck, (45, 50), (0, 0)), [(5, 5)])
        self.assertEqual(ways(neck, (45, 57), (0, 1)), [(5, 12)])
        self.assertEqual(ways(neck, (44,), (6, 6)), [])
        self.assertEqual(ways(neck, (58,), (6, 6)), [])

    def test_a_note_just_below_its_string_is_not_a_silent_string(self):
        self.assertEqual(ways(((40,), 12, 0), (39,), (6, 6)), [])
        self.assertEqual(ways(((40, 45), 12, 0), (39, 45), (6, 6)), [])
        self.assertEqual(ways(((40, 45), 12, 0), (44, 45), (6, 6)), [(4, 0)])

    def test_edges_of_chords(self):
        self.assertEqual(ways(((0,), 0, 0), (0,), (0, 0)), [(0,)])
        self.assertEqual(ways(((60,), 20, 0), (80,), (0, 1)), [(20,)])
        self.assertEqual(ways(((60,), 20, 0), (80,), (0, 0)), [])
        self.assertEqual(ways(((60,), 20, 20), (80,), (0, 0)), [(20,)])
        self.assertEqual(ways(((0, 60), 20, 0), (0, 80), (0, 1)), [(0, 20)])

    def test_six_notes(self):
        six = ((16, 21, 26, 31, 35, 40), 20, 0)
        chord = (16, 23, 28, 32, 35, 40)
        self.assertIn((0, 2, 2, 1, 0, 0), ways(six, chord, (1, 3)))
        self.assertNotIn((0, 2, 2, 1, 0, 0), ways(six, chord, (1, 2)))
        self.assertNotIn((0, 2, 2, 1, 0, 0), ways(six, chord, (0, 3)))
        for shape in ways(six, chord, (6, 6)):
            self.assertEqual(sorted(sounded(six, shape)), list(chord))
            self.assertIs(can_lay(six, shape, (6, 6)), True)

    def test_six_notes_in_each_order_on_six_like_strings(self):
        neck = ((10, 10, 10, 10, 10, 10), 6, 0)
        found = ways(neck, (11, 12, 13, 14, 15, 16), (5, 6))
        self.assertEqual(len(found), 720)
        self.assertEqual(len(set(found)), 720)
        self.assertEqual(found, sorted(found))
        self.assertEqual(found[0], (1, 2, 3, 4, 5, 6))
        self.assertEqual(ways(neck, (11, 12, 13, 14, 15, 16), (4, 6)), [])

    def test_more_notes_than_strings(self):
        self.assertEqual(ways(((40,), 20, 0), (41, 42), (6, 6)), [])
        self.assertEqual(ways(((40, 45, 50, 55, 60), 20, 0), (56, 57, 58, 59, 60, 61), (6, 6)), [])

    def test_all_chords_of_small_necks(self):
        for neck in NECKS:
            for many in (1, 2, 3):
                for chord in combinations(range(9, 21), many):
                    for hand in HANDS:
                        self.assertEqual(
                            ways(neck, chord, hand), ways_by_hand(neck, chord, hand), (neck, chord, hand)
                        )

    def test_the_bare_neck_has_the_same_ways(self):
        neck = ((10, 12, 15), 5, 2)
        for chord in combinations(range(11, 21), 2):
            for hand in HANDS:
                wanted = [tuple(fret - 2 if fret != -1 else -1 for fret in shape) for shape in ways(neck, chord, hand)]
                self.assertEqual(ways(bare(neck), chord, hand), wanted)


class SlidShapeTest(RefusalCase):
    def test_a_slid_shape_sounds_as_much_higher_and_can_be_laid(self):
        many = 0
        for neck in NECKS:
            for shape, far in product(all_shapes(neck), range(-6, 7)):
                there = slid(neck, shape, far)
                if there is None:
                    continue
                many += 1
                self.assertEqual(sounded(neck, there), [note + far for note in sounded(neck, shape)])
                for hand in HANDS:
                    self.assertIs(can_lay(neck, there, hand), can_lay(neck, shape, hand))
        self.assertGreater(many, 500)

    def test_a_slid_way_is_a_way_of_the_slid_chord(self):
        neck = ((10, 12, 15), 8, 1)
        many = 0
        for chord, far in product(combinations(range(10, 24), 2), range(-5, 6)):
            for shape in ways(neck, chord, (3, 2)):
                there = slid(neck, shape, far)
                if there is not None:
                    many += 1
                    self.assertIn(there, ways(neck, tuple(note + far for note in chord), (3, 2)))
        self.assertGreater(many, 100)


class RefusedTest(RefusalCase):
    def test_no_neck_ahead_of_all_else(self):
        for neck in BAD_NECKS:
            self.assert_refused(BadNeck, ways, neck, (40,), (3, 3))
            self.assert_refused(BadNeck, ways, neck, (), (3, 3))
            self.assert_refused(BadNeck, ways, neck, (40,), (7, 3))
            self.assert_refused(BadNeck, ways, neck, (50, 40), (7, -1))

    def test_no_chord(self):
        for chord in BAD_CHORDS:
            refusal = self.assert_refused(BadChord, ways, NECK, chord, (3, 3))
            self.assertEqual(refusal.number, 0)

    def test_no_chord_on_one_string(self):
        for chord in BAD_CHORDS:
            self.assert_refused(BadChord, ways, ((0,), 0, 0), chord, (0, 0))

    def test_no_chord_ahead_of_no_hand(self):
        for chord in BAD_CHORDS:
            for hand in BAD_HANDS:
                refusal = self.assert_refused(BadChord, ways, NECK, chord, hand)
                self.assertEqual(refusal.number, 0)

    def test_no_hand(self):
        for hand in BAD_HANDS:
            self.assert_refused(BadHand, ways, NECK, (42,), hand)
            self.assert_refused(BadHand, ways, NECK, (0, 80), hand)

    def test_edges_are_no_faults(self):
        for chord in [(0,), (80,), (0, 80), (0, 1, 2, 3, 4, 5), (75, 76, 77, 78, 79, 80)]:
            for hand in [(0, 0), (0, 6), (6, 0), (6, 6)]:
                self.assertEqual(ways(NECK, chord, hand), [])


if __name__ == "__main__":
    unittest.main()
