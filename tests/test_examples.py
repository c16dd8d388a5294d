"""Every example of the document for the modules that there are, as it is written there."""

import unittest

from tests.examples import run_examples

TURNS = """
>>> from framecams.turns import back, half_of, in_order, is_turn, joined, power, turn_of
>>> nil, one, two, half = (0, 1), (1, 1), (2, 1), (1, 2)
>>> east, north, west, south, slant = (one, nil), (nil, one), ((-1, 1), nil), (nil, (-1, 1)), ((3, 5), (4, 5))
>>> [turn_of(half), turn_of(None), half_of(south), half_of(west), joined(slant, slant), back(slant), power(north, 3), power(slant, -1)]
[((3, 5), (4, 5)), ((-1, 1), (0, 1)), (-1, 1), None, ((-7, 25), (24, 25)), ((3, 5), (-4, 5)), ((0, 1), (-1, 1)), ((3, 5), (-4, 5))]
>>> [is_turn(slant), is_turn(((1, 2), (1, 2))), in_order((south, slant, east)) == (east, slant, south)]
[True, False, True]
"""

WAVES = """
>>> from framecams.waves import bend, growth, harmonics_of, is_wave, mirrored, moved, plus, times, turned, worth
>>> blank = (nil, nil)
>>> round_cam, oval, egg = (one, ()), (one, (blank, ((1, 4), nil))), (one, (blank, blank, ((1, 10), nil)))
>>> [worth(oval, east), worth(oval, north), worth(oval, slant), worth(egg, slant), harmonics_of(egg), harmonics_of(round_cam)]
[(5, 4), (3, 4), (93, 100), (1133, 1250), (3,), ()]
>>> [growth(oval), bend(egg), turned(oval, north), turned(egg, north), moved(round_cam, (half, nil))]
[((0, 1), (((0, 1), (0, 1)), ((0, 1), (-1, 2)))), ((1, 1), (((0, 1), (0, 1)), ((0, 1), (0, 1)), ((-4, 5), (0, 1)))), ((1, 1), (((0, 1), (0, 1)), ((-1, 4), (0, 1)))), ((1, 1), (((0, 1), (0, 1)), ((0, 1), (0, 1)), ((0, 1), (1, 10)))), ((1, 1), (((1, 2), (0, 1)),))]
>>> [plus(oval, times(oval, (-1, 1))), mirrored(turned(egg, north)) == turned(egg, south), is_wave((one, (blank,)))]
[((0, 1), ()), True, False]
"""


class Examples(unittest.TestCase):
    def test_examples_of_the_document(self):
        names = {}
        rows = run_examples(TURNS, names) + run_examples(WAVES, names)
        self.assertEqual(len(rows), 11)
        for line, told, wanted in rows:
            with self.subTest(line=line):
                self.assertEqual(told, wanted)

    def test_a_wrong_example_is_noticed(self):
        rows = run_examples(">>> 1 + 1\n3\n>>> [][0:1]\n[]\n>>> int('x')", {})
        self.assertEqual([told == wanted for _, told, wanted in rows], [False, True, False])


if __name__ == "__main__":
    unittest.main()
