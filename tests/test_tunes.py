"""Points 8 to 11: tunes, the least movement of the hand, its table, and what follows of them."""

import unittest
from itertools import permutations, product

from fretways.errors import BadHand, BadNeck, BadTune
from fretways.necks import bare
from fretways.tunes import movement, played, table
from shared_by_tests import BAD_NECKS, BAD_REACHES, BAD_TUNES, NECK, RefusalCase

SMALL_NECKS = [
    ((10,), 0, 0),
    ((10, 13), 1, 0),
    ((10, 12), 4, 0),
    ((12, 10), 5, 1),
    ((10, 10), 6, 2),
    ((11, 10, 12), 4, 3),
    ((10, 12), 3, 3),
    ((10, 16), 6, 0),
]
GUITAR = ((16, 21, 26, 31, 35, 40), 20, 0)
LONG_TUNE = [40, 42, 44, 45, 60, 58, 16, 17, 20, 55, 31, 35, 36, 57, 59, 22, 41, 43, 50, 52]


def positions_by_hand(neck):
    """All positions, by the words of point 8."""
    _, frets, capo = neck
    found = [fret for fret in range(frets + 1) if fret > capo]
    return found or [capo + 1]


def plays(neck, place, position, reach):
    """Whether the hand plays by the place in the position, by the words of point 8."""
    _, frets, capo = neck
    if not capo <= place <= frets:
        return False
    return place == capo or position <= place <= position + reach


def can_play(neck, note, position, reach):
    """Whether the hand plays the note in the position, by the words of point 8."""
    return any(plays(neck, note - start, position, reach) for start in neck[0])


def moved(positions):
    """What the positions of a row go up and down."""
    far = 0
    for number in range(1, len(positions)):
        far += abs(positions[number] - positions[number - 1])
    return far


def least_by_hand(neck, tune, reach):
    """The least movement, by trying all rows of positions; None, if some note can't be played."""
    fine = [[at for at in positions_by_hand(neck) if can_play(neck, note, at, reach)] for note in tune]
    return min((moved(row) for row in product(*fine)), default=None)


class TuneCase(RefusalCase):
    def assert_playing(self, neck, tune, reach, told):
        """Assert that what is told is a playing of the tune with the movement that is told."""
        least, playing = told
        self.assertIs(told.__class__, tuple)
        self.assertIs(playing.__class__, list)
        self.assertEqual(len(playing), len(tune))
        for note, item in zip(tune, playing):
            self.assertIs(item.__class__, tuple)
            string, place, position = item
            self.assertIn(string, range(len(neck[0])))
            self.assertEqual(neck[0][string] + place, note)
            self.assertIn(position, positions_by_hand(neck))
            self.assertTrue(plays(neck, place, position, reach), (neck, tune, reach, item))
        self.assertEqual(moved([position for _, _, position in playing]), least)
        self.assertEqual(movement(playing), least)

    def assert_table(self, neck, tune, reach, rows, least):
        """Assert all that point 10 says of a table."""
        positions = positions_by_hand(neck)
        self.assertEqual(len(rows), len(tune))
        for note, row in zip(tune, rows):
            self.assertEqual(len(row), len(positions))
            for position, number in zip(positions, row):
                self.assertEqual(number == -1, not can_play(neck, note, position, reach), (neck, tune, reach))
                self.assertGreaterEqual(number, -1)
        self.assertLessEqual(max(rows[0]), 0)
        for ahead, row in zip(rows, rows[1:]):
            for (here, before), (there, number) in product(zip(positions, ahead), zip(positions, row)):
                if before != -1 and number != -1:
                    self.assertLessEqual(number, before + abs(there - here), (neck, tune, reach))
        self.assertEqual(min(number for number in rows[-1] if number != -1), least)

    def assert_tune(self, neck, tune, reach, least):
        """Assert that the least movement is told, with a playing and a table for it."""
        told = played(neck, tune, reach)
        rows = table(neck, tune, reach)
        if least is None:
            self.assertIsNone(told, (neck, tune, reach))
            self.assertIsNone(rows, (neck, tune, reach))
            return
        self.assertIsNotNone(told, (neck, tune, reach))
        self.assertEqual(told[0], least, (neck, tune, reach))
        self.assert_playing(neck, tune, reach, told)
        self.assert_table(neck, tune, reach, rows, least)


class MovementTest(RefusalCase):
    def test_up_and_down_are_added(self):
        self.assertEqual(movement([(0, 1, 1), (0, 5, 4), (1, 3, 2)]), 5)
        self.assertEqual(movement([(0, 5, 5), (0, 2, 2)]), 3)
        self.assertEqual(movement([(0, 2, 2), (0, 5, 5)]), 3)
        self.assertEqual(movement([(0, 1, 1), (0, 20, 20)] * 15), 29 * 19)

    def test_strings_and_places_count_for_nothing(self):
        self.assertEqual(movement([(0, 0, 7), (5, 9, 7), (1, 0, 7), (0, 13, 7)]), 0)
        self.assertEqual(movement([(0, 20, 7), (5, 0, 8)]), 1)

    def test_one_note_moves_nothing(self):
        self.assertEqual(movement([(0, 1, 1)]), 0)
        self.assertEqual(movement([(3, 20, 20)]), 0)


class PositionTest(TuneCase):
    def test_pressed_at_the_position_and_at_the_reach_above_it(self):
        neck = ((40,), 5, 0)
        self.assertEqual(table(neck, [43], 0), [[-1, -1, 0, -1, -1]])
        self.assertEqual(table(neck, [43], 1), [[-1, 0, 0, -1, -1]])
        self.assertEqual(table(neck, [43], 2), [[0, 0, 0, -1, -1]])
        self.assertEqual(table(neck, [45], 3), [[-1, 0, 0, 0, 0]])
        self.assertEqual(table(neck, [41], 6), [[0, -1, -1, -1, -1]])

    def test_reach_0_and_6(self):
        neck = ((40,), 20, 0)
        self.assertEqual(table(neck, [50], 0), [[-1] * 9 + [0] + [-1] * 10])
        self.assertEqual(table(neck, [50], 6), [[-1] * 3 + [0] * 7 + [-1] * 10])
        self.assert_tune(neck, [41, 47], 6, 0)
        self.assert_tune(neck, [41, 48], 6, 1)
        self.assert_tune(neck, [41, 47], 0, 6)

    def test_open_places_in_any_position(self):
        self.assertEqual(table(((40,), 5, 0), [40], 0), [[0, 0, 0, 0, 0]])
        self.assertEqual(table(((40, 45), 5, 0), [45], 0), [[0, 0, 0, 0, 0]])
        self.assert_tune(((40,), 12, 0), [52, 40, 52], 0, 0)

    def test_a_capo(self):
        neck = ((40,), 7, 2)
        self.assertEqual(table(neck, [42], 0), [[0, 0, 0, 0, 0]])
        self.assertEqual(table(neck, [43], 1), [[0, -1, -1, -1, -1]])
        self.assertEqual(table(neck, [47], 1), [[-1, -1, -1, 0, 0]])
        self.assertIsNone(table(neck, [41], 6))
        self.assertIsNone(table(neck, [48], 6))
        self.assert_tune(neck, [47, 42, 43], 0, 4)

    def test_no_fret_above_the_capo(self):
        for neck, position in [(((40, 45), 5, 5), 6), (((35, 40), 10, 10), 11), (((25, 30), 20, 20), 21)]:
            low = neck[0][0] + neck[2]
            tune = [low, low + 5, low]
            capo = neck[2]
            wanted = [(0, capo, position), (1, capo, position), (0, capo, position)]
            self.assertEqual(played(neck, tune, 3), (0, wanted))
            self.assertEqual(table(neck, tune, 3), [[0], [0], [0]])
            for wrong in (low - 1, low + 1, low + 4, low + 6):
                self.assert_tune(neck, [low, wrong], 6, None)
        self.assertEqual(played(((40,), 0, 0), [40], 0), (0, [(0, 0, 1)]))

    def test_one_fret_above_the_capo(self):
        self.assertEqual(played(((40,), 1, 0), [40, 41], 0), (0, [(0, 0, 1), (0, 1, 1)]))
        self.assertEqual(table(((40,), 1, 0), [40, 41], 6), [[0], [0]])
        self.assertEqual(played(((40,), 20, 19), [60, 59], 6), (0, [(0, 20, 20), (0, 19, 20)]))

    def test_twenty_frets_above_the_capo(self):
        neck = ((40,), 20, 0)
        self.assertEqual(table(neck, [40], 0), [[0] * 20])
        self.assertEqual(table(neck, [60], 0), [[-1] * 19 + [0]])
        self.assertEqual(played(neck, [41, 60], 0), (19, [(0, 1, 1), (0, 20, 20)]))


class PlayedTest(TuneCase):
    def test_ordinary_tunes(self):
        neck = ((40, 45, 50), 12, 0)
        self.assert_tune(neck, [41, 52, 47], 2, 0)
        self.assert_tune(neck, [41, 52, 47, 62], 2, 9)
        self.assert_tune(neck, [62, 61, 60], 2, 0)
        self.assert_tune(neck, [62, 61, 60, 59], 2, 1)

    def test_the_nearest_place_is_not_always_the_best_one(self):
        # 52 has the places 12 and 2: who stays with 12 from the first note on goes further.
        self.assert_tune(((40, 50), 12, 0), [52, 51, 41], 0, 1)
        self.assert_tune(((40, 50), 12, 0), [51, 52, 62], 0, 1)

    def test_one_note(self):
        self.assertEqual(played(((40,), 5, 0), [43], 0), (0, [(0, 3, 3)]))
        self.assertEqual(table(((40,), 5, 0), [43], 0), [[-1, -1, 0, -1, -1]])
        self.assert_tune(GUITAR, [16], 0, 0)
        self.assert_tune(GUITAR, [60], 6, 0)

    def test_thirty_notes(self):
        playing = [(0, 1, 1), (0, 12, 12)] * 15
        self.assertEqual(played(((40,), 12, 0), [41, 52] * 15, 0), (29 * 11, playing))
        rows = table(((40,), 12, 0), [41, 52] * 15, 0)
        self.assert_table(((40,), 12, 0), [41, 52] * 15, 0, rows, 29 * 11)
        self.assert_tune(((40,), 12, 0), [52] + [40] * 28 + [41], 0, 11)
        self.assert_tune(((40,), 12, 0), [40] * 30, 3, 0)

    def test_notes_0_and_80(self):
        neck = ((0, 60), 20, 0)
        self.assertEqual(played(neck, [0, 80], 0), (0, [(0, 0, 20), (1, 20, 20)]))
        self.assert_tune(neck, [80, 0, 61, 0], 0, 19)
        self.assert_tune(neck, [80], 6, 0)
        self.assert_tune(((30,), 20, 0), [0], 6, None)
        self.assert_tune(((30,), 20, 0), [80], 6, None)

    def test_a_note_that_cannot_be_played(self):
        neck = ((40, 50), 5, 1)
        for wrong in (0, 39, 40, 46, 50, 56, 80):
            self.assert_tune(neck, [wrong], 6, None)
            self.assert_tune(neck, [wrong, 41, 42], 6, None)
            self.assert_tune(neck, [41, wrong, 42], 6, None)
            self.assert_tune(neck, [41, 42, wrong], 6, None)
            self.assert_tune(neck, [41] * 29 + [wrong], 6, None)

    def test_short_tunes_on_small_necks(self):
        for neck in SMALL_NECKS:
            for many, reaches in [(1, range(7)), (2, (0, 2, 6)), (3, (1,))]:
                for tune, reach in product(product(range(9, 19), repeat=many), reaches):
                    self.assert_tune(neck, list(tune), reach, least_by_hand(neck, tune, reach))

    def test_longer_tunes_on_small_necks(self):
        for neck in SMALL_NECKS:
            capo = neck[2]
            sung = [10 + capo, 13 + capo, 11 + capo, 12 + capo, 10 + capo, 13 + capo]
            for tune in sorted(set(permutations(sung, 5))):
                self.assert_tune(neck, list(tune), 0, least_by_hand(neck, tune, 0))

    def test_a_long_tune_on_six_strings(self):
        for reach in range(7):
            told = played(GUITAR, LONG_TUNE, reach)
            self.assert_playing(GUITAR, LONG_TUNE, reach, told)
            # By point 10 the table itself shows that less doesn't do.
            self.assert_table(GUITAR, LONG_TUNE, reach, table(GUITAR, LONG_TUNE, reach), told[0])


class FollowsTest(TuneCase):
    def least(self, neck, tune, reach):
        told = played(neck, tune, reach)
        return None if told is None else told[0]

    def test_from_the_end_to_the_beginning(self):
        for neck in SMALL_NECKS:
            for tune in product(range(10, 18), repeat=3):
                there = self.least(neck, list(tune), 1)
                self.assertEqual(self.least(neck, list(reversed(tune)), 1), there)
        for reach in range(7):
            there = self.least(GUITAR, LONG_TUNE, reach)
            self.assertEqual(self.least(GUITAR, LONG_TUNE[::-1], reach), there)

    def test_strings_in_another_order(self):
        for tuning in permutations((10, 13, 15)):
            for tune in product(range(11, 21, 2), repeat=3):
                wanted = self.least(((10, 13, 15), 5, 1), list(tune), 1)
                self.assertEqual(self.least((tuning, 5, 1), list(tune), 1), wanted)
        for tuning in [GUITAR[0][::-1], GUITAR[0][3:] + GUITAR[0][:3]]:
            for reach in (0, 3):
                wanted = self.least(GUITAR, LONG_TUNE, reach)
                self.assertEqual(self.least((tuning, 20, 0), LONG_TUNE, reach), wanted)

    def test_the_bare_neck(self):
        for neck in SMALL_NECKS:
            for tune in product(range(10, 19), repeat=2):
                for reach in (0, 1, 4):
                    self.assertEqual(self.least(bare(neck), list(tune), reach), self.least(neck, list(tune), reach))

    def test_two_tunes_one_behind_the_other(self):
        more = 0
        for neck in SMALL_NECKS:
            tunes = [list(tune) for tune in product(range(10, 19, 2), repeat=2)]
            tunes = [tune for tune in tunes if self.least(neck, tune, 1) is not None]
            for one, other in product(tunes, repeat=2):
                both = self.least(neck, one, 1) + self.least(neck, other, 1)
                whole = self.least(neck, one + other, 1)
                self.assertGreaterEqual(whole, both)
                more += whole > both
        self.assertGreater(more, 10)
        for cut in range(1, len(LONG_TUNE)):
            both = self.least(GUITAR, LONG_TUNE[:cut], 2) + self.least(GUITAR, LONG_TUNE[cut:], 2)
            self.assertGreaterEqual(self.least(GUITAR, LONG_TUNE, 2), both)


class RefusedTest(RefusalCase):
    def test_no_neck_ahead_of_all_else(self):
        for neck in BAD_NECKS:
            for function in (played, table):
                self.assert_refused(BadNeck, function, neck, [40], 3)
                self.assert_refused(BadNeck, function, neck, [], 3)
                self.assert_refused(BadNeck, function, neck, [40], 7)
                self.assert_refused(BadNeck, function, neck, [81] * 31, -1)

    def test_no_tune(self):
        for tune in BAD_TUNES:
            for neck in (NECK, GUITAR, ((40,), 0, 0)):
                self.assert_refused(BadTune, played, neck, tune, 3)
                self.assert_refused(BadTune, table, neck, tune, 3)

    def test_no_tune_ahead_of_no_reach(self):
        for tune in BAD_TUNES:
            for reach in BAD_REACHES:
                self.assert_refused(BadTune, played, NECK, tune, reach)
                self.assert_refused(BadTune, table, NECK, tune, reach)

    def test_no_reach(self):
        for reach in BAD_REACHES:
            for tune in ([42], [43, 44], [0], [80] * 30):
                self.assert_refused(BadHand, played, NECK, tune, reach)
                self.assert_refused(BadHand, table, NECK, tune, reach)

    def test_edges_are_no_faults(self):
        for tune in ([0], [80], [0, 80] * 15, [42, 0]):
            for reach in (0, 6):
                self.assertIsNone(played(NECK, tune, reach))
                self.assertIsNone(table(NECK, tune, reach))


if __name__ == "__main__":
    unittest.main()
