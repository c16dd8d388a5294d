"""The interface: names, parameters and the files in which all of it is defined."""

import importlib
import inspect
import unittest

INTERFACE = {
    "turns": {
        "is_turn": "value", "turn_of": "fraction", "half_of": "turn", "joined": "turn, other", "back": "turn",
        "power": "turn, number", "in_order": "turns",
    },
    "waves": {
        "is_wave": "value", "worth": "wave, turn", "plus": "wave, other", "times": "wave, fraction",
        "turned": "wave, turn", "mirrored": "wave", "moved": "wave, place", "growth": "wave", "bend": "wave",
        "harmonics_of": "wave",
    },
    "signs": {
        "never_below": "wave", "always_above": "wave", "turn_where": "wave, sign", "zeros_of": "wave", "row_of": "wave",
        "zero_near": "wave, index, many", "least_near": "wave, many", "greatest_near": "wave, many",
    },
    "cams": {
        "is_cam": "value", "is_smooth": "value", "undercut_turn": "wave", "ground_near": "wave, many",
        "point_at": "cam, turn", "axle_word": "cam", "breadth_of": "cam",
    },
    "feet": {
        "is_wide_enough": "cam, low, high", "missed_turn": "cam, low, high", "touch_near": "cam, many",
        "breadth_near": "cam, many", "is_even_broad": "cam", "gap_word": "cam, gap", "gap_turn": "cam, gap",
    },
    "frames": {
        "is_frame": "value", "regular": "number, distance", "knots": "frame", "knot_number": "frame, knot",
        "frame_number": "frame", "lets": "frame, harmonic", "letting": "frame, most", "turns_in": "wave, frame",
        "bar": "wave, frame", "regular_numbers": "wave", "parting_harmonic": "frame, other", "needless_feet": "frame",
    },
    "lots": {
        "shares": "frames, harmonic", "least_shared": "frames", "good_numbers": "harmonics",
        "most_feet": "number, harmonics", "widest_frame": "number, harmonics, distance",
    },
    "pairs": {
        "play_wave": "cam, other, arms, turn", "goes_without_play": "cam, other, arms, turn",
        "playing_harmonics": "cam, other, arms, turn", "pair_width": "cam, other, arms, turn",
        "mate": "cam, arms, turn, width", "is_mate_cam": "cam, arms, turn, width", "width_near": "cam, arms, many",
    },
    "speeds": {
        "bearing_wave": "cam, spring, square", "is_kept": "cam, spring, square",
        "leaving_turn": "cam, spring, square", "square_near": "cam, spring, many",
        "presses_at_most": "cam, spring, square, level", "pressing_near": "cam, spring, square, many",
        "turning_at": "cam, spring, square, turn", "turning_near": "cam, spring, square, many",
    },
    "nevers": {
        "within_word": "cam, other, turn", "turn_above": "cam, other, turn", "spare_near": "cam, other, turn, many",
        "carrying_row": "cam, other, turn", "handed_over": "cam, other, turn", "carry_word": "cam, other, turn",
        "lift_of_two": "cam, other, turn, spot",
    },
    "alikes": {
        "are_alike": "wave, other", "are_alike_moved": "wave, other", "are_mirror_alike": "wave, other",
        "carrying_turns": "wave, other", "fold": "wave", "has_axis": "wave", "parting": "wave, other",
    },
    "sizes": {
        "way_round": "cam", "area": "cam", "mixed_area": "cam, other", "moments": "cam", "deficit": "cam",
        "mixed_gap": "cam, other", "middle": "cam", "is_balanced": "cam", "balanced": "cam",
    },
    "sums": {
        "added": "box, weights", "product": "wave, other", "weights_for": "box, wave", "barring_wave": "box, wave",
        "is_barring": "box, wave, value", "weight_range": "box, wave, number", "needless_waves": "box",
    },
    "checker": {"accepts": "claim, paper"},
    "certificates": {
        "certify_cam": "wave", "certify_foot": "cam, low, high", "certify_frame": "wave, frame",
        "certify_frames": "frame, other", "certify_shared": "frames", "certify_play": "cam, other, arms, turn",
        "certify_kept": "cam, spring, square", "certify_within": "cam, other, turn", "certify_alike": "wave, other",
        "certify_area": "cam", "certify_box": "box, wave",
    },
}
# What stands in the class itself: methods with their parameters, None for a property.
CLASSES = {
    ("workshops", "Workshop"): {
        "__init__": "self", "put": "self, name, cam", "drop": "self, name", "wish": "self, wish", "lift": "self, index",
        "named": "self, name", "undo": "self", "trial": "self", "tried": "self, action", "__len__": "self",
        "__contains__": "self, name", "names": None, "wishes": None,
    },
    ("consoles", "Console"): {"__init__": "self, shop", "say": "self, line"},
}


class Interface(unittest.TestCase):
    def test_functions(self):
        for file, functions in INTERFACE.items():
            module = importlib.import_module(f"framecams.{file}")
            for name, parameters in functions.items():
                with self.subTest(file=file, name=name):
                    function = getattr(module, name)
                    self.assertTrue(inspect.isfunction(function))
                    self.assertEqual((function.__module__, function.__name__), (module.__name__, name))
                    self.assertEqual(str(inspect.signature(function)), f"({parameters})")

    def test_classes(self):
        for (file, name), methods in CLASSES.items():
            module = importlib.import_module(f"framecams.{file}")
            found = getattr(module, name)
            self.assertEqual((found.__module__, found.__name__, found.__bases__), (module.__name__, name, (object,)))
            for method, parameters in methods.items():
                with self.subTest(name=name, method=method):
                    told = vars(found)[method]
                    if parameters is None:
                        self.assertIsInstance(told, property)
                        self.assertIsNone(told.fset)
                    else:
                        self.assertEqual(str(inspect.signature(told)), f"({parameters})")

    def test_all_modules_of_the_interface(self):
        named = {file for file, _ in CLASSES} | set(INTERFACE) | {"errors"}
        self.assertEqual(len(named), 18)


if __name__ == "__main__":
    unittest.main()
