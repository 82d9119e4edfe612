"""Point 13: how shapes are written and read."""

import unittest
from itertools import product

from fretways.errors import BadNeck, BadShape, BadText
from fretways.notes import read, written
from shared_by_tests import BAD_NECKS, BAD_SHAPES, NECK, RefusalCase, all_shapes

SIX = ((16, 21, 26, 31, 35, 40), 20, 0)
NECKS = [((40,), 0, 0), ((40,), 20, 20), ((40,), 12, 9), ((40, 45), 11, 0), ((40, 45, 50), 11, 8), NECK]

# What is no text of a shape on a neck of three strings with the places 2 to 12.
BAD_TEXTS = [
    "",
    " ",
    "  ",
    "   ",
    "5",
    "5 5",
    "x x",
    "5 5 5 5",
    "x x x x",
    "x " * 40,
    "555",
    "xxx",
    "5 5 5 ",
    " 5 5 5",
    "5  5 5",
    "5 5  5",
    "5 5 ",
    " 5 5",
    "5  5",
    "5,5,5",
    "5 5 1",
    "1 5 5",
    "5 0 5",
    "5 13 5",
    "13 5 5",
    "5 5 13",
    "5 5 700",
    "5 5 " + "9" * 6000,
    "5 5 05",
    "05 5 5",
    "5 005 5",
    "5 5 00",
    "5 5 010",
    "5 5 -1",
    "-1 5 5",
    "5 5 -5",
    "5 5 +5",
    "5 5 5x",
    "5 5 x5",
    "5 5 xx",
    "5 5 X",
    "X X X",
    "5 5 y",
    "5 5 5.",
    "5 5 5.0",
    "5 5 1_0",
    "5 5 0x5",
    "5 5 a",
    "5 5 ~",
    "5 5 (",
    "5 5 None",
]


class WrittenTest(RefusalCase):
    def test_the_last_string_comes_first(self):
        neck = ((40, 45, 50), 12, 0)
        self.assertEqual(written(neck, (3, 2, 0)), "0 2 3")
        self.assertEqual(written(neck, (3, -1, 10)), "10 x 3")
        self.assertEqual(written(neck, (-1, -1, -1)), "x x x")
        self.assertEqual(written(neck, (12, 11, 9)), "9 11 12")

    def test_one_and_six_strings(self):
        self.assertEqual(written(((40,), 0, 0), (0,)), "0")
        self.assertEqual(written(((40,), 0, 0), (-1,)), "x")
        self.assertEqual(written(((40,), 20, 20), (20,)), "20")
        self.assertEqual(written(SIX, (0, 2, -1, 20, 10, 9)), "9 10 20 x 2 0")

    def test_above_a_capo_the_places_are_written(self):
        self.assertEqual(written(NECK, (2, 7, -1)), "x 7 2")


class ReadTest(RefusalCase):
    def test_the_last_string_comes_first(self):
        neck = ((40, 45, 50), 12, 0)
        self.assertEqual(read(neck, "0 2 3"), (3, 2, 0))
        self.assertEqual(read(neck, "10 x 3"), (3, -1, 10))
        self.assertEqual(read(neck, "x x x"), (-1, -1, -1))

    def test_figures_of_one_and_of_two_signs(self):
        self.assertEqual(read(((40,), 20, 0), "0"), (0,))
        self.assertEqual(read(((40,), 20, 0), "9"), (9,))
        self.assertEqual(read(((40,), 20, 0), "10"), (10,))
        self.assertEqual(read(((40,), 20, 0), "20"), (20,))
        self.assertEqual(read(((40,), 20, 20), "20"), (20,))
        self.assertEqual(read(((40,), 20, 0), "x"), (-1,))
        self.assertEqual(read(SIX, "9 10 20 x 2 0"), (0, 2, -1, 20, 10, 9))

    def test_just_at_the_capo_and_at_the_last_fret_and_beyond(self):
        neck = ((40,), 12, 9)
        self.assertEqual(read(neck, "9"), (9,))
        self.assertEqual(read(neck, "12"), (12,))
        for text in ("8", "13", "0", "1", "2", "99", "09", "012", "120"):
            self.assert_refused(BadText, read, neck, text)

    def test_a_needless_0(self):
        neck = ((40,), 12, 0)
        for text in ("00", "01", "05", "09", "010", "000"):
            self.assert_refused(BadText, read, neck, text)

    def test_what_is_written_is_read(self):
        for neck in NECKS:
            for shape in all_shapes(neck):
                self.assertEqual(read(neck, written(neck, shape)), shape)

    def test_no_other_text_is_read(self):
        for neck in NECKS:
            texts = {written(neck, shape): shape for shape in all_shapes(neck)}
            for many in range(6):
                for signs in product("x0129 -", repeat=many):
                    text = "".join(signs)
                    try:
                        told = read(neck, text)
                    except BadText:
                        told = None
                    self.assertEqual(told, texts.get(text), (neck, text))

    def test_all_signs_of_texts(self):
        neck = ((40,), 9, 0)
        signs = [chr(code) for code in range(32, 127) if code != 37]
        fine = [sign for sign in signs if sign in "x0123456789"]
        self.assertEqual(len(fine), 11)
        for sign in signs:
            if sign in fine:
                self.assertEqual(read(neck, sign), (-1 if sign == "x" else int(sign),))
            else:
                self.assert_refused(BadText, read, neck, sign)
            self.assert_refused(BadText, read, neck, "5" + sign)
            self.assert_refused(BadText, read, neck, sign + "x")


class RefusedTest(RefusalCase):
    def test_no_neck_ahead_of_all_else(self):
        for neck in BAD_NECKS:
            self.assert_refused(BadNeck, written, neck, (3,))
            self.assert_refused(BadNeck, written, neck, ())
            self.assert_refused(BadNeck, read, neck, "3")
            self.assert_refused(BadNeck, read, neck, "")
            self.assert_refused(BadNeck, read, neck, "no text")

    def test_no_shape(self):
        for shape in BAD_SHAPES:
            self.assert_refused(BadShape, written, NECK, shape)

    def test_no_text(self):
        for text in BAD_TEXTS:
            self.assert_refused(BadText, read, ((40, 45, 50), 12, 2), text)

    def test_an_empty_text(self):
        for neck in NECKS:
            self.assert_refused(BadText, read, neck, "")

    def test_a_word_too_few_or_too_many(self):
        for many in range(1, 7):
            neck = ((40,) * many, 5, 0)
            self.assertEqual(read(neck, " ".join(["x"] * many)), (-1,) * many)
            self.assert_refused(BadText, read, neck, " ".join(["x"] * (many - 1)))
            self.assert_refused(BadText, read, neck, " ".join(["x"] * (many + 1)))
            self.assert_refused(BadText, read, neck, " ".join(["x"] * (many + 30)))


if __name__ == "__main__":
    unittest.main()
