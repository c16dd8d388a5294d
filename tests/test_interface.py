"""The interface: names, parameters and the files in which all of it is defined."""

import importlib
import inspect
import unittest

INTERFACE = {
    "turns": {
        "is_turn": "value", "turn_of": "fraction", "half_of": "turn", "joined": "turn, other", "back": "turn",
        "power": "turn, number", "in_order": "turns",
    },
    "waves": {
        "is_wave": "value", "worth": "wave, turn", "plus": "wave, other", "times": "wave, fraction",
        "turned": "wave, turn", "mirrored": "wave", "moved": "wave, place", "growth": "wave", "bend": "wave",
        "harmonics_of": "wave",
    },
}


class Interface(unittest.TestCase):
    def test_functions(self):
        for file, functions in INTERFACE.items():
            module = importlib.import_module(f"framecams.{file}")
            for name, parameters in functions.items():
                with self.subTest(file=file, name=name):
                    function = getattr(module, name)
                    self.assertTrue(inspect.isfunction(function))
                    self.assertEqual((function.__module__, function.__name__), (module.__name__, name))
                    self.assertEqual(str(inspect.signature(function)), f"({parameters})")


if __name__ == "__main__":
    unittest.main()
