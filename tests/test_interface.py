"""The interface behind the points: names, arguments, and where they are defined."""

import inspect
import unittest

from fretways import errors, necks, notes, shapes, tunes, tunings

ARGUMENTS = {
    necks: {
        "notes": ["neck"],
        "missing": ["neck"],
        "places": ["neck", "note"],
        "bare": ["neck"],
    },
    shapes: {
        "ways": ["neck", "chord", "hand"],
        "sounded": ["neck", "shape"],
        "slid": ["neck", "shape", "far"],
        "apart": ["neck", "one", "other"],
        "can_lay": ["neck", "shape", "hand"],
    },
    tunes: {
        "played": ["neck", "tune", "reach"],
        "table": ["neck", "tune", "reach"],
        "movement": ["playing"],
    },
    tunings: {
        "retuned": ["neck", "chords", "hand"],
    },
    notes: {
        "written": ["neck", "shape"],
        "read": ["neck", "text"],
    },
}
REFUSALS = ["BadNeck", "BadShape", "BadHand", "BadChord", "BadTune", "BadText"]


class InterfaceTest(unittest.TestCase):
    def test_functions_are_defined_in_their_files_with_their_arguments(self):
        for module, functions in ARGUMENTS.items():
            for name, arguments in functions.items():
                with self.subTest(name=name):
                    function = getattr(module, name)
                    self.assertTrue(inspect.isfunction(function))
                    self.assertEqual(function.__module__, module.__name__)
                    self.assertEqual(list(inspect.signature(function).parameters), arguments)

    def test_arguments_may_be_named(self):
        neck = ((40, 45), 5, 0)
        self.assertEqual(necks.places(neck=neck, note=45), [(0, 5), (1, 0)])
        self.assertEqual(shapes.ways(neck=neck, chord=(45,), hand=(0, 0)), [(-1, 0)])
        self.assertEqual(shapes.slid(neck=neck, shape=(1, 2), far=3), (4, 5))
        self.assertEqual(shapes.apart(neck=neck, one=(1, 2), other=(4, 5)), 3)
        self.assertIs(shapes.can_lay(neck=neck, shape=(1, 2), hand=(1, 2)), True)
        self.assertEqual(tunes.played(neck=neck, tune=[41], reach=0), (0, [(0, 1, 1)]))
        self.assertEqual(tunes.table(neck=neck, tune=[41], reach=0), [[0, -1, -1, -1, -1]])
        self.assertEqual(tunes.movement(playing=[(0, 1, 1), (0, 3, 3)]), 2)
        self.assertEqual(tunings.retuned(neck=neck, chords=[(40,)], hand=(0, 0)), ((0, 0), []))
        self.assertEqual(notes.written(neck=neck, shape=(1, -1)), "x 1")
        self.assertEqual(notes.read(neck=neck, text="x 1"), (1, -1))

    def test_all_refusals_stand_straight_under_neck_error(self):
        self.assertEqual(errors.NeckError.__bases__, (ValueError,))
        self.assertEqual(errors.NeckError.__module__, "fretways.errors")
        for name in REFUSALS:
            with self.subTest(name=name):
                refusal = getattr(errors, name)
                self.assertEqual(refusal.__bases__, (errors.NeckError,))
                self.assertEqual(refusal.__module__, "fretways.errors")

    def test_bad_chord_has_a_number_from_the_start(self):
        self.assertEqual(errors.BadChord("why").number, 0)
        self.assertEqual(errors.BadChord("why", 6).number, 6)
        self.assertEqual(str(errors.BadChord("why", 6)), "why")


if __name__ == "__main__":
    unittest.main()
