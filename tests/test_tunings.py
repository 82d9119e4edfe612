"""Point 12: retunings, in their order, and why none ahead of the first that serves does."""

import unittest
from itertools import product

from fretways.errors import BadChord, BadHand, BadNeck
from fretways.tunings import retuned
from shared_by_tests import BAD_CHORD_LISTS, BAD_HANDS, BAD_NECKS, RefusalCase, ways_by_hand

NECK = ((40, 45, 50), 7, 2)


def retunings_by_hand(tuning):
    """All retunings in their order, by the words of point 12."""
    found = []
    for steps in product((-2, -1, 0, 1, 2), repeat=len(tuning)):
        if all(0 <= note + step <= 60 for note, step in zip(tuning, steps)):
            found.append((sum(abs(step) for step in steps), steps))
    return [steps for _, steps in sorted(found)]


def retuned_by_hand(neck, chords, hand):
    """The first retuning that serves, with its reasons, by trying all in order."""
    tuning, frets, capo = neck
    reasons = []
    for steps in retunings_by_hand(tuning):
        there = (tuple(note + step for note, step in zip(tuning, steps)), frets, capo)
        lacking = [number for number, chord in enumerate(chords) if not ways_by_hand(there, chord, hand)]
        if not lacking:
            return steps, reasons
        reasons.append((steps, lacking[0]))
    return None


class RetunedTest(RefusalCase):
    def assert_retuned(self, neck, chords, hand):
        wanted = retuned_by_hand(neck, chords, hand)
        self.assertEqual(retuned(neck, chords, hand), wanted, (neck, chords, hand))
        return wanted

    def test_one_string_in_its_order(self):
        reasons = [((0,), 0), ((-1,), 0), ((1,), 0), ((-2,), 0)]
        self.assertEqual(retuned(((40,), 0, 0), [(40,)], (0, 0)), ((0,), []))
        self.assertEqual(retuned(((40,), 0, 0), [(39,)], (0, 0)), ((-1,), reasons[:1]))
        self.assertEqual(retuned(((40,), 0, 0), [(41,)], (0, 0)), ((1,), reasons[:2]))
        self.assertEqual(retuned(((40,), 0, 0), [(38,)], (0, 0)), ((-2,), reasons[:3]))
        self.assertEqual(retuned(((40,), 0, 0), [(42,)], (0, 0)), ((2,), reasons))
        self.assertIsNone(retuned(((40,), 0, 0), [(43,)], (0, 0)))
        self.assertIsNone(retuned(((40,), 0, 0), [(37,)], (0, 0)))

    def test_less_change_comes_first_then_as_tuples_do(self):
        neck = ((40, 50), 0, 0)
        told = retuned(neck, [(41, 51)], (0, 0))
        self.assertEqual(told[0], (1, 1))
        self.assertEqual(
            [retuning for retuning, _ in told[1]],
            [
                (0, 0),
                (-1, 0), (0, -1), (0, 1), (1, 0),
                (-2, 0), (-1, -1), (-1, 1), (0, -2), (0, 2), (1, -1),
            ],
        )
        self.assertEqual({number for _, number in told[1]}, {0})

    def test_the_last_of_all_retunings(self):
        neck = ((40, 50), 0, 0)
        retuning, reasons = retuned(neck, [(42, 52)], (0, 0))
        self.assertEqual(retuning, (2, 2))
        self.assertEqual(len(reasons), 24)
        self.assertEqual([ahead for ahead, _ in reasons], retunings_by_hand((40, 50))[:-1])

    def test_reasons_tell_the_first_chord_without_a_way(self):
        neck = ((40, 50), 0, 0)
        self.assertEqual(
            retuned(neck, [(40,), (51,)], (0, 0)),
            ((0, 1), [((0, 0), 1), ((-1, 0), 0), ((0, -1), 1)]),
        )
        self.assertEqual(
            retuned(neck, [(51,), (40,)], (0, 0)),
            ((0, 1), [((0, 0), 0), ((-1, 0), 0), ((0, -1), 0)]),
        )
        self.assertEqual(
            retuned(neck, [(40,), (40,), (40,), (40,), (40,), (51,)], (0, 0)),
            ((0, 1), [((0, 0), 5), ((-1, 0), 0), ((0, -1), 5)]),
        )

    def test_all_chords_on_the_one_retuning(self):
        neck = ((40,), 0, 0)
        self.assertIsNone(retuned(neck, [(40,), (41,)], (0, 0)))
        self.assertEqual(retuned(((40,), 1, 0), [(40,), (41,)], (0, 1)), ((0,), []))
        self.assertEqual(retuned(((40,), 1, 0), [(39,), (40,)], (0, 1)), ((-1,), [((0,), 0)]))

    def test_the_hand(self):
        neck = ((40, 45), 12, 0)
        self.assertEqual(retuned(neck, [(41, 51)], (5, 2)), ((0, 0), []))
        self.assertEqual(retuned(neck, [(41, 51)], (4, 2)), ((-1, 0), [((0, 0), 0)]))
        reasons = [((0, 0), 0), ((-1, 0), 0), ((0, -1), 0), ((0, 1), 0)]
        self.assertEqual(retuned(neck, [(41, 51)], (4, 1)), ((1, 0), reasons))
        self.assertIsNone(retuned(neck, [(41, 51)], (4, 0)))

    def test_a_capo(self):
        neck = ((40,), 6, 5)
        self.assertEqual(retuned(neck, [(45,)], (0, 0)), ((0,), []))
        self.assertEqual(retuned(neck, [(46,)], (0, 0)), ((1,), [((0,), 0), ((-1,), 0)]))
        self.assertEqual(retuned(neck, [(46,)], (0, 1)), ((0,), []))
        self.assertIsNone(retuned(neck, [(40,)], (6, 6)))

    def test_notes_below_0_there_are_not(self):
        self.assertEqual(retuned(((0,), 0, 0), [(2,)], (0, 0)), ((2,), [((0,), 0), ((1,), 0)]))
        self.assertEqual(retuned(((1,), 0, 0), [(3,)], (0, 0)), ((2,), [((0,), 0), ((-1,), 0), ((1,), 0)]))
        self.assertEqual(
            retuned(((2,), 0, 0), [(4,)], (0, 0)), ((2,), [((0,), 0), ((-1,), 0), ((1,), 0), ((-2,), 0)])
        )

    def test_notes_above_60_there_are_not(self):
        self.assertIsNone(retuned(((60,), 0, 0), [(61,)], (0, 0)))
        self.assertEqual(retuned(((60,), 0, 0), [(58,)], (0, 0)), ((-2,), [((0,), 0), ((-1,), 0)]))
        self.assertEqual(retuned(((59,), 0, 0), [(57,)], (0, 0)), ((-2,), [((0,), 0), ((-1,), 0), ((1,), 0)]))
        self.assertIsNone(retuned(((59,), 0, 0), [(61,)], (0, 0)))
        self.assertEqual(
            retuned(((58,), 0, 0), [(60,)], (0, 0)), ((2,), [((0,), 0), ((-1,), 0), ((1,), 0), ((-2,), 0)])
        )
        self.assertEqual(retuned(((60,), 20, 0), [(80,)], (0, 1)), ((0,), []))
        self.assertEqual(retuned(((60, 0), 0, 0), [(1, 60)], (0, 0)), ((0, 1), [((0, 0), 0), ((-1, 0), 0)]))

    def test_no_chord(self):
        for tuning in [(0,), (60,), (40, 45), (45, 40, 40), (0, 60, 0, 60)]:
            self.assertEqual(retuned((tuning, 0, 0), [], (0, 0)), ((0,) * len(tuning), []))

    def test_six_chords(self):
        neck = ((40, 45, 50), 4, 0)
        chords = [(40, 45, 50), (41, 46, 51), (42, 47, 52), (43, 48, 53), (44, 49, 54), (39,)]
        wanted = self.assert_retuned(neck, chords, (0, 3))
        self.assertIsNone(wanted)
        chords[5] = (55,)
        self.assertIsNone(self.assert_retuned(neck, chords, (0, 3)))
        chords[5] = (54,)
        self.assertEqual(retuned(neck, chords, (0, 3)), ((0, 0, 0), []))
        self.assertEqual(
            retuned(((40, 45, 50), 5, 0), [(40,), (41,), (45,), (46,), (50,), (56,)], (0, 1)),
            ((0, 0, 1), [((0, 0, 0), 5), ((-1, 0, 0), 5), ((0, -1, 0), 5), ((0, 0, -1), 5)]),
        )

    def test_four_strings(self):
        neck = ((0, 60, 30, 33), 0, 0)
        retuning, reasons = retuned(neck, [(2, 32, 35, 58)], (0, 0))
        self.assertEqual(retuning, (2, -2, 2, 2))
        # Three numbers each for the strings at 0 and 60, five for the others; this one is the last.
        self.assertEqual(len(reasons), 3 * 3 * 5 * 5 - 1)
        self.assertEqual([ahead for ahead, _ in reasons] + [retuning], retunings_by_hand(neck[0]))
        free = ((40, 45, 50, 55), 0, 0)
        retuning, reasons = retuned(free, [(42, 47, 52, 57)], (0, 0))
        self.assertEqual(retuning, (2, 2, 2, 2))
        self.assertEqual(len(reasons), 624)

    def test_a_chord_that_no_retuning_serves(self):
        self.assertIsNone(retuned(NECK, [(0,)], (6, 6)))
        self.assertIsNone(retuned(NECK, [(80,)], (6, 6)))
        self.assertIsNone(retuned(NECK, [(45,), (50,), (80,)], (6, 6)))
        self.assertIsNone(retuned(((40, 45, 50, 55), 20, 0), [(50, 51, 52, 53, 54)], (6, 6)))
        self.assertIsNone(retuned(((40,), 20, 0), [(50, 51)], (6, 6)))

    def test_all_small_necks(self):
        served = 0
        for neck in [((10, 12), 2, 0), ((12, 10), 3, 1), ((0, 2), 1, 1), ((1, 60), 2, 2), ((10, 13, 12), 1, 0)]:
            base = min(neck[0]) + neck[2]
            for one in range(base, base + 7):
                for other in range(one + 1, base + 7):
                    chords = [(one,), (one - 1, other) if one else (one, other), (other,)]
                    for hand in [(0, 1), (2, 2)]:
                        served += self.assert_retuned(neck, chords, hand) is not None
        self.assertGreater(served, 30)

    def test_the_kinds_of_what_is_told(self):
        told = retuned(((40, 50), 0, 0), [(40,), (51,)], (0, 0))
        self.assertIs(told.__class__, tuple)
        self.assertEqual([part.__class__ for part in told], [tuple, list])
        self.assertEqual({item.__class__ for item in told[1]}, {tuple})
        self.assertEqual({retuning.__class__ for retuning, _ in told[1]}, {tuple})


class RefusedTest(RefusalCase):
    def test_more_than_four_strings(self):
        for tuning in [(40,) * 5, (16, 21, 26, 31, 35, 40), (0, 60, 0, 60, 0)]:
            self.assert_refused(BadNeck, retuned, (tuning, 12, 0), [], (3, 3))
            self.assert_refused(BadNeck, retuned, (tuning, 12, 0), [(45,)], (3, 3))
            self.assert_refused(BadNeck, retuned, (tuning, 12, 0), [()] * 7, (7, -1))

    def test_no_neck_ahead_of_all_else(self):
        for neck in BAD_NECKS:
            self.assert_refused(BadNeck, retuned, neck, [], (3, 3))
            self.assert_refused(BadNeck, retuned, neck, [(40,)], (3, 3))
            self.assert_refused(BadNeck, retuned, neck, [(50, 40)], (3, 3))
            self.assert_refused(BadNeck, retuned, neck, [(40,)] * 7, (3, 3))
            self.assert_refused(BadNeck, retuned, neck, [(40,)], (3, 7))

    def test_no_list_of_chords(self):
        for chords, number in BAD_CHORD_LISTS:
            refusal = self.assert_refused(BadChord, retuned, NECK, chords, (3, 3))
            self.assertEqual(refusal.number, number, chords)

    def test_no_list_of_chords_where_an_earlier_one_has_no_way(self):
        refusal = self.assert_refused(BadChord, retuned, ((40,), 0, 0), [(80,), (45, 40)], (0, 0))
        self.assertEqual(refusal.number, 1)

    def test_no_list_of_chords_ahead_of_no_hand(self):
        for chords, number in BAD_CHORD_LISTS:
            for hand in ((), (7, 3), (3, -50)):
                refusal = self.assert_refused(BadChord, retuned, NECK, chords, hand)
                self.assertEqual(refusal.number, number, chords)

    def test_no_hand(self):
        for hand in BAD_HANDS:
            for chords in ([], [(45,)], [(0, 80)], [(45,)] * 6):
                self.assert_refused(BadHand, retuned, NECK, chords, hand)

    def test_edges_are_no_faults(self):
        for hand in [(0, 0), (0, 6), (6, 0), (6, 6)]:
            self.assertEqual(retuned(NECK, [], hand), ((0, 0, 0), []))
            self.assertEqual(retuned(((40, 45, 50, 55), 0, 0), [(40,), (45,)] * 3, hand), ((0, 0, 0, 0), []))
            for chord in [(0,), (80,), (0, 1, 2, 3, 4, 5)]:
                self.assertIsNone(retuned(NECK, [chord], hand))


if __name__ == "__main__":
    unittest.main()
