"""Points 4 and 6: shapes and hands, what they sound and how they are slid."""

import unittest
from itertools import product

from fretways.errors import BadHand, BadNeck, BadShape
from fretways.shapes import apart, can_lay, slid, sounded
from shared_by_tests import BAD_HANDS, BAD_NECKS, BAD_SHAPES, NECK, RefusalCase, all_shapes

SIX = ((16, 21, 26, 31, 35, 40), 20, 0)


class CanLayTest(RefusalCase):
    def assert_laid(self, neck, shape, hand):
        self.assertIs(can_lay(neck, shape, hand), True, (neck, shape, hand))

    def assert_not_laid(self, neck, shape, hand):
        self.assertIs(can_lay(neck, shape, hand), False, (neck, shape, hand))

    def test_reach(self):
        neck = ((40, 45, 50), 12, 0)
        self.assert_laid(neck, (5, 3, 7), (4, 3))
        self.assert_not_laid(neck, (5, 3, 7), (3, 3))
        self.assert_laid(neck, (1, 7, -1), (6, 2))
        self.assert_not_laid(neck, (1, 8, -1), (6, 2))
        self.assert_not_laid(neck, (12, -1, 1), (6, 6))

    def test_fingers(self):
        neck = ((40, 45, 50), 12, 0)
        self.assert_laid(neck, (3, 3, 3), (0, 3))
        self.assert_not_laid(neck, (3, 3, 3), (0, 2))
        self.assert_not_laid(neck, (3, 3, 3), (6, 0))
        self.assert_laid(neck, (3, -1, 3), (0, 2))
        self.assert_laid(neck, (3, 0, 3), (0, 2))
        self.assert_not_laid(neck, (3, 0, 3), (0, 1))

    def test_open_and_silent_strings_need_neither_fingers_nor_reach(self):
        self.assert_laid(((40, 45), 12, 0), (0, -1), (0, 0))
        self.assert_laid(((40, 45), 12, 0), (-1, -1), (0, 0))
        self.assert_laid(((40, 45), 12, 0), (0, 0), (0, 0))
        self.assert_laid(((40, 45), 12, 0), (0, 12), (0, 1))
        self.assert_laid(((40, 45), 12, 5), (5, 12), (0, 1))
        self.assert_laid(((40, 45), 12, 12), (12, 12), (0, 0))
        self.assert_laid(((40,), 0, 0), (0,), (0, 0))

    def test_just_above_the_capo_is_pressed(self):
        self.assert_not_laid(((40, 45), 12, 5), (6, 5), (6, 0))
        self.assert_laid(((40, 45), 12, 5), (6, 5), (0, 1))
        self.assert_not_laid(((40, 45), 12, 0), (1, 0), (6, 0))

    def test_six_strings(self):
        self.assert_laid(SIX, (14, 15, 16, 17, 18, 20), (6, 6))
        self.assert_not_laid(SIX, (14, 15, 16, 17, 18, 20), (5, 6))
        self.assert_not_laid(SIX, (14, 15, 16, 17, 18, 20), (6, 5))
        self.assert_not_laid(SIX, (13, 15, 16, 17, 18, 20), (6, 6))
        self.assert_laid(SIX, (20, 20, 20, 20, 20, 20), (0, 6))

    def test_all_shapes_of_a_neck(self):
        neck = ((40, 45, 50), 5, 1)
        for shape in all_shapes(neck):
            pressed = [place for place in shape if place > 1]
            for hand in product(range(7), repeat=2):
                far = max(pressed) - min(pressed) if pressed else 0
                wanted = len(pressed) <= hand[1] and far <= hand[0]
                self.assertIs(can_lay(neck, shape, hand), wanted, (shape, hand))


class SoundedTest(RefusalCase):
    def test_ordinary_shapes(self):
        self.assertEqual(sounded(((40, 45, 50), 12, 0), (3, 2, 0)), [43, 47, 50])
        self.assertEqual(sounded(((40, 45, 50), 12, 2), (3, 2, 12)), [43, 47, 62])

    def test_the_order_is_that_of_the_strings(self):
        self.assertEqual(sounded(((50, 40, 45), 12, 0), (0, 12, 1)), [50, 52, 46])
        self.assertEqual(sounded(((40, 45), 12, 0), (12, 0)), [52, 45])

    def test_like_notes_are_told_for_each_string(self):
        self.assertEqual(sounded(((40, 45), 12, 0), (5, 0)), [45, 45])

    def test_silent_strings_are_left_out(self):
        self.assertEqual(sounded(((40, 45, 50), 12, 0), (3, -1, 0)), [43, 50])
        self.assertEqual(sounded(((40, 45, 50), 12, 0), (-1, -1, 7)), [57])
        self.assertEqual(sounded(((40, 45, 50), 12, 0), (-1, -1, -1)), [])

    def test_edges(self):
        self.assertEqual(sounded(((0,), 0, 0), (0,)), [0])
        self.assertEqual(sounded(((60,), 20, 0), (20,)), [80])
        self.assertEqual(sounded(((60,), 20, 20), (20,)), [80])
        self.assertEqual(sounded(((60,), 20, 20), (-1,)), [])
        self.assertEqual(sounded(SIX, (0, 2, 2, 1, 0, 0)), [16, 23, 28, 32, 35, 40])


class SlidTest(RefusalCase):
    def test_on_and_back(self):
        neck = ((40, 45, 50), 12, 0)
        self.assertEqual(slid(neck, (3, 5, 4), 2), (5, 7, 6))
        self.assertEqual(slid(neck, (3, 5, 4), -2), (1, 3, 2))
        self.assertEqual(slid(neck, (3, 5, 4), 0), (3, 5, 4))

    def test_silent_strings_stay_silent(self):
        neck = ((40, 45, 50), 12, 0)
        self.assertEqual(slid(neck, (3, -1, 4), 5), (8, -1, 9))
        self.assertEqual(slid(neck, (3, -1, 4), -1), (2, -1, 3))

    def test_just_to_the_last_fret_and_one_further(self):
        neck = ((40, 45, 50), 12, 0)
        self.assertEqual(slid(neck, (3, 5, -1), 7), (10, 12, -1))
        self.assertIsNone(slid(neck, (3, 5, -1), 8))
        self.assertIsNone(slid(neck, (3, 5, -1), 1000))

    def test_just_to_the_first_pressed_place_and_one_further(self):
        neck = ((40, 45, 50), 12, 0)
        self.assertEqual(slid(neck, (3, 5, -1), -2), (1, 3, -1))
        self.assertIsNone(slid(neck, (3, 5, -1), -3))
        self.assertIsNone(slid(neck, (3, 5, -1), -4))
        self.assertIsNone(slid(neck, (3, 5, -1), -1000))

    def test_above_a_capo(self):
        neck = ((40, 45), 9, 4)
        self.assertEqual(slid(neck, (6, 7), -1), (5, 6))
        self.assertIsNone(slid(neck, (6, 7), -2))
        self.assertIsNone(slid(neck, (6, 7), -7))
        self.assertIsNone(slid(neck, (6, -1), -7))
        self.assertEqual(slid(neck, (6, 7), 2), (8, 9))
        self.assertIsNone(slid(neck, (6, 7), 3))

    def test_open_strings_cannot_be_slid(self):
        for far in (-5, -1, 0, 1, 5):
            self.assertIsNone(slid(((40, 45), 9, 0), (0, 6), far))
            self.assertIsNone(slid(((40, 45), 9, 0), (6, 0), far))
            self.assertIsNone(slid(((40, 45), 9, 4), (4, -1), far))
            self.assertIsNone(slid(((40, 45), 9, 9), (9, 9), far))
            self.assertIsNone(slid(((40,), 0, 0), (0,), far))

    def test_a_shape_without_a_sounding_string_goes_any_way(self):
        for far in (-1000, -1, 0, 1, 1000):
            self.assertEqual(slid(((40, 45), 9, 4), (-1, -1), far), (-1, -1))
            self.assertEqual(slid(((40,), 0, 0), (-1,), far), (-1,))

    def test_all_shapes_of_a_neck(self):
        neck = ((40, 45), 6, 2)
        for shape in all_shapes(neck):
            for far in range(-8, 9):
                there = tuple(place + far if place != -1 else -1 for place in shape)
                here = [place for place in shape if place != -1]
                fine = all(3 <= place <= 6 and 3 <= place + far <= 6 for place in here)
                self.assertEqual(slid(neck, shape, far), there if fine else None, (shape, far))


class ApartTest(RefusalCase):
    def test_on_and_back(self):
        neck = ((40, 45, 50), 12, 0)
        self.assertEqual(apart(neck, (3, 5, -1), (5, 7, -1)), 2)
        self.assertEqual(apart(neck, (5, 7, -1), (3, 5, -1)), -2)
        self.assertEqual(apart(neck, (-1, 7, 5), (-1, 7, 5)), 0)
        self.assertEqual(apart(neck, (1, -1, 2), (11, -1, 12)), 10)

    def test_by_none(self):
        neck = ((40, 45, 50), 12, 0)
        self.assertIsNone(apart(neck, (3, 5, -1), (5, 8, -1)))
        self.assertIsNone(apart(neck, (3, 5, -1), (5, 7, 7)))
        self.assertIsNone(apart(neck, (3, 5, 5), (5, 7, -1)))
        self.assertIsNone(apart(neck, (3, 5, -1), (-1, 5, 7)))
        self.assertIsNone(apart(neck, (3, -1, -1), (-1, -1, -1)))
        self.assertIsNone(apart(neck, (-1, -1, -1), (3, -1, -1)))

    def test_open_strings_cannot_be_slid(self):
        neck = ((40, 45), 12, 4)
        self.assertIsNone(apart(neck, (4, 5), (4, 5)))
        self.assertIsNone(apart(neck, (4, 4), (4, 4)))
        self.assertIsNone(apart(neck, (4, 5), (5, 6)))
        self.assertIsNone(apart(neck, (5, 6), (4, 5)))
        self.assertIsNone(apart(neck, (4, -1), (-1, -1)))
        self.assertIsNone(apart(neck, (-1, -1), (4, -1)))

    def test_two_without_a_sounding_string(self):
        self.assertEqual(apart(((40, 45), 12, 4), (-1, -1), (-1, -1)), 0)
        self.assertEqual(apart(((40,), 0, 0), (-1,), (-1,)), 0)

    def test_all_shapes_of_a_neck(self):
        neck = ((40, 45), 5, 1)
        shapes = all_shapes(neck)
        for one, other in product(shapes, repeat=2):
            fars = [far for far in range(-6, 7) if slid(neck, one, far) == other]
            if one == other == (-1, -1):
                fars = [0]
            self.assertLessEqual(len(fars), 1)
            self.assertEqual(apart(neck, one, other), fars[0] if fars else None, (one, other))


class RefusedTest(RefusalCase):
    def test_no_neck_ahead_of_all_else(self):
        for neck in BAD_NECKS:
            for shape in [(3,), (0,), (-1,), (), (90, -7, 3)]:
                self.assert_refused(BadNeck, sounded, neck, shape)
                self.assert_refused(BadNeck, slid, neck, shape, 1)
                self.assert_refused(BadNeck, apart, neck, shape, (3,))
                self.assert_refused(BadNeck, apart, neck, (3,), shape)
                self.assert_refused(BadNeck, can_lay, neck, shape, (3, 3))
                self.assert_refused(BadNeck, can_lay, neck, shape, (-1, 7))

    def test_no_shape(self):
        for shape in BAD_SHAPES:
            self.assert_refused(BadShape, sounded, NECK, shape)
            for far in (-1, 0, 1):
                self.assert_refused(BadShape, slid, NECK, shape, far)
            self.assert_refused(BadShape, apart, NECK, shape, (3, 3, 3))
            self.assert_refused(BadShape, apart, NECK, (3, 3, 3), shape)
            self.assert_refused(BadShape, apart, NECK, (-1, -1, -1), shape)
            self.assert_refused(BadShape, apart, NECK, shape, shape)
            self.assert_refused(BadShape, can_lay, NECK, shape, (3, 3))

    def test_no_shape_where_no_fret_is_pressed(self):
        self.assert_refused(BadShape, sounded, ((40,), 0, 0), (1,))
        self.assert_refused(BadShape, sounded, ((40,), 0, 0), (-2,))
        self.assert_refused(BadShape, sounded, ((40,), 20, 20), (19,))
        self.assert_refused(BadShape, sounded, ((40,), 20, 20), (21,))
        self.assert_refused(BadShape, sounded, ((40,), 20, 20), (0,))

    def test_no_shape_ahead_of_no_hand(self):
        for shape in BAD_SHAPES:
            for hand in BAD_HANDS:
                self.assert_refused(BadShape, can_lay, NECK, shape, hand)

    def test_no_hand(self):
        for hand in BAD_HANDS:
            for shape in [(3, 3, 3), (2, 2, 2), (-1, -1, -1), (3, -1, 7)]:
                self.assert_refused(BadHand, can_lay, NECK, shape, hand)

    def test_edges_are_no_faults(self):
        for shape in [(-1, -1, -1), (2, 2, 2), (7, 7, 7), (2, 7, -1)]:
            self.assertEqual(len(sounded(NECK, shape)), 3 - shape.count(-1))
            for hand in [(0, 0), (0, 6), (6, 0), (6, 6)]:
                self.assertIn(can_lay(NECK, shape, hand), (True, False))


if __name__ == "__main__":
    unittest.main()
