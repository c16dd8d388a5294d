"""Every example of the document, as it is written there."""

import unittest

from tests.examples import run_examples

TURNS = """
>>> from framecams.turns import back, half_of, in_order, is_turn, joined, power, turn_of
>>> nil, one, two, half = (0, 1), (1, 1), (2, 1), (1, 2)
>>> east, north, west, south, slant = (one, nil), (nil, one), ((-1, 1), nil), (nil, (-1, 1)), ((3, 5), (4, 5))
>>> [turn_of(half), turn_of(None), half_of(south), half_of(west), joined(slant, slant), back(slant), power(north, 3), power(slant, -1)]
[((3, 5), (4, 5)), ((-1, 1), (0, 1)), (-1, 1), None, ((-7, 25), (24, 25)), ((3, 5), (-4, 5)), ((0, 1), (-1, 1)), ((3, 5), (-4, 5))]
>>> [is_turn(slant), is_turn(((1, 2), (1, 2))), in_order((south, slant, east)) == (east, slant, south)]
[True, False, True]
"""

WAVES = """
>>> from framecams.waves import bend, growth, harmonics_of, is_wave, mirrored, moved, plus, times, turned, worth
>>> blank = (nil, nil)
>>> round_cam, oval, egg = (one, ()), (one, (blank, ((1, 4), nil))), (one, (blank, blank, ((1, 10), nil)))
>>> [worth(oval, east), worth(oval, north), worth(oval, slant), worth(egg, slant), harmonics_of(egg), harmonics_of(round_cam)]
[(5, 4), (3, 4), (93, 100), (1133, 1250), (3,), ()]
>>> [growth(oval), bend(egg), turned(oval, north), turned(egg, north), moved(round_cam, (half, nil))]
[((0, 1), (((0, 1), (0, 1)), ((0, 1), (-1, 2)))), ((1, 1), (((0, 1), (0, 1)), ((0, 1), (0, 1)), ((-4, 5), (0, 1)))), ((1, 1), (((0, 1), (0, 1)), ((-1, 4), (0, 1)))), ((1, 1), (((0, 1), (0, 1)), ((0, 1), (0, 1)), ((0, 1), (1, 10)))), ((1, 1), (((1, 2), (0, 1)),))]
>>> [plus(oval, times(oval, (-1, 1))), mirrored(turned(egg, north)) == turned(egg, south), is_wave((one, (blank,)))]
[((0, 1), ()), True, False]
"""

SIGNS = """
>>> from framecams.signs import always_above, greatest_near, least_near, never_below, row_of, turn_where, zero_near, zeros_of
>>> swing, lean = (nil, ((one, nil),)), (one, (((-1, 1), nil),))
>>> [zeros_of(swing), row_of(swing), zero_near(swing, 0, 10), zero_near(swing, 1, 10), zeros_of(lean), row_of(lean), never_below(lean), always_above(lean), zeros_of((nil, ())), row_of((nil, ()))]
[2, (-1, 1), (1, 0, True), (3, 0, True), 1, (1,), True, False, 'all', (0,)]
>>> [least_near(oval, 100), greatest_near(oval, 100), least_near(egg, 7), turn_where(oval, -1), turn_where(lean, 0), zeros_of(oval), row_of(oval)]
[(75, True), (125, True), (6, False), None, ((1, 1), (0, 1)), 0, (1,)]
"""

CAMS = """
>>> from framecams.cams import axle_word, breadth_of, ground_near, is_cam, is_smooth, point_at, undercut_turn
>>> wide, edge = (one, ((nil, nil), (half, nil))), (one, ((nil, nil), ((1, 3), nil)))
>>> [is_cam(oval), is_smooth(oval), is_cam(wide), is_cam(edge), is_smooth(edge), undercut_turn(oval), ground_near(oval, 100), ground_near(wide, 100), ground_near(edge, 7)]
[True, True, False, True, False, None, (-25, True), (50, True), (0, True)]
>>> [point_at(oval, slant), point_at(round_cam, slant), axle_word(oval), axle_word((one, ((one, nil),))), axle_word((one, ((two, nil),))), breadth_of(oval), breadth_of(egg)]
[((471, 500), (57, 125)), ((3, 5), (4, 5)), 'inside', 'rim', 'outside', ((2, 1), (((0, 1), (0, 1)), ((1, 2), (0, 1)))), ((2, 1), ())]
"""

FEET = """
>>> from framecams.feet import breadth_near, gap_turn, gap_word, is_even_broad, is_wide_enough, missed_turn, touch_near
>>> [is_wide_enough(oval, (-1, 2), half), is_wide_enough(oval, (-1, 2), (1, 3)), missed_turn(oval, (-1, 2), half), touch_near(oval, 10), breadth_near(oval, 10), is_even_broad(oval), is_even_broad(egg)]
[True, False, None, ((-5, True), (5, True)), ((15, True), (25, True)), False, True]
>>> [gap_word(oval, one), gap_word(oval, two), gap_word(oval, (5, 2)), gap_word(egg, two), gap_turn(oval, one), gap_turn(oval, (3, 2)) in (((0, 1), (1, 1)), ((0, 1), (-1, 1)))]
['never', 'sometimes', 'always', 'always', None, True]
>>> is_wide_enough(oval, one, half)
raises HighBelowLow(given=(1, 2))
"""

FRAMES = """
>>> from framecams.frames import bar, frame_number, knot_number, knots, lets, letting, needless_feet, parting_harmonic, regular, regular_numbers, turns_in
>>> square, triangle, corner, rhomb = regular(4, one), regular(3, one), (12, (0, 4, 7), one), (30, (2, 7, 17, 22), one)
>>> [square, knots(square), knots(triangle), knots(corner), knot_number(corner, (0, 4, 7)), letting(square, 8), letting(triangle, 8), lets(corner, 13)]
[(4, (0, 1, 2, 3), (1, 1)), ((0, 2), (1, 3)), ((0, 1, 2),), ((0, 4, 7),), 12, (1, 3, 5, 7), (1, 2, 4, 5, 7, 8), True]
>>> [frame_number(square), frame_number(triangle), frame_number(corner), frame_number(rhomb), knots(rhomb), frame_number((6, (0, 1, 3, 4, 5), one)), frame_number((7, (0, 3), one))]
[2, 3, 12, 2, ((2, 17), (7, 22)), 6, 1]
>>> [turns_in(egg, square), turns_in(egg, rhomb), turns_in(oval, square), turns_in(oval, triangle), turns_in(oval, (7, (0, 3), two)), bar(oval, square), bar(egg, triangle), bar(times(oval, two), triangle), bar(egg, square)]
[True, True, False, True, True, ('harmonic', 2, (0, 2)), ('harmonic', 3, (0, 1, 2)), ('distance',), None]
>>> [regular_numbers(egg), regular_numbers(oval), regular_numbers(round_cam), parting_harmonic(square, regular(2, two)), parting_harmonic(square, triangle), needless_feet(square), needless_feet(triangle), needless_feet((6, (0, 2, 4, 5), one))]
[(2, 4), (3,), None, None, 2, (0, 1, 2, 3), (), (2,)]
"""

LOTS = """
>>> from framecams.lots import good_numbers, least_shared, most_feet, shares, widest_frame
>>> [shares((square, triangle), 5), shares((square, triangle), 3), least_shared((square, triangle)), least_shared((square,)), least_shared((triangle, corner))]
[True, False, 5, 3, 11]
>>> [good_numbers((3,)), good_numbers((2,)), good_numbers((5, 7)), most_feet(12, (5, 7)), most_feet(5, (5, 7)), most_feet(30, (3,)), most_feet(2, (2,)), widest_frame(2, (2,), one)]
[(1, 2, 4), (1, 3), (1, 2, 3, 4, 6), 6, 2, 4, 1, None]
"""

SPEEDS = """
>>> from framecams.speeds import bearing_wave, is_kept, leaving_turn, square_near
>>> coil = (one, one, half)
>>> [bearing_wave(oval, coil, two), is_kept(oval, coil, (7, 4)), is_kept(oval, coil, two), leaving_turn(oval, coil, (7, 4)), square_near(oval, coil, 100), square_near(oval, coil, 3), square_near(round_cam, coil, 3)]
[((3, 2), (((0, 1), (0, 1)), ((-7, 4), (0, 1)))), True, False, None, (175, True), (5, False), None]
>>> square_near(oval, (one, one, (-2, 1)), 3)
raises NotPressed()
>>> from framecams.speeds import presses_at_most, pressing_near, turning_at, turning_near
>>> [pressing_near(oval, coil, (1, 4), 10), presses_at_most(oval, coil, (1, 4), (6, 1)), presses_at_most(oval, coil, (1, 4), (5, 1)), pressing_near(round_cam, coil, two, 4)]
[(60, True), True, False, (6, True)]
>>> [turning_at(oval, coil, (1, 4), slant), turning_near(oval, coil, (1, 4), 8), turning_near(round_cam, coil, two, 3)]
[(-18, 25), ((-6, True), (6, True)), ((0, True), (0, True))]
"""

NEVERS = """
>>> from framecams.nevers import spare_near, turn_above, within_word
>>> [within_word(oval, ((5, 4), ()), slant), within_word(oval, (two, ()), slant), within_word(oval, round_cam, slant), within_word(oval, oval, (nil, one)), within_word(oval, oval, ((-1, 1), nil))]
['touches', 'free', 'out', 'out', 'touches']
>>> [spare_near(oval, (two, ()), slant, 100), spare_near(oval, oval, (nil, one), 10), turn_above(oval, (two, ()), slant)]
[(75, True), (-5, True), None]
>>> from framecams.nevers import carry_word, carrying_row, handed_over, lift_of_two
>>> quarter = (nil, one)
>>> [carrying_row(oval, oval, quarter), handed_over(oval, oval, quarter), carry_word(oval, oval, quarter), lift_of_two(oval, oval, quarter, slant), carry_word(oval, (two, ()), slant), carry_word(oval, oval, ((-1, 1), nil)), carry_word(oval, ((3, 4), ()), slant)]
[(-1, 1, -1, 1), 4, 'in turns', (107, 100), 'other', 'both', 'first']
"""

ALIKES = """
>>> from framecams.alikes import are_alike, are_alike_moved, are_mirror_alike, carrying_turns, fold, has_axis, parting
>>> both, skew = plus(oval, egg), (two, (blank, ((1, 4), nil), (nil, (1, 10))))
>>> [are_alike(egg, turned(egg, slant)), carrying_turns(egg, egg), carrying_turns(oval, turned(oval, north)), carrying_turns(round_cam, round_cam), fold(egg), fold(both), fold(round_cam)]
[True, (((1, 1), (0, 1)),), (((0, 1), (1, 1)), ((0, 1), (-1, 1))), None, 3, 1, 0]
>>> [parting(oval, egg), parting(oval, times(oval, two)), parting(both, skew), parting(egg, turned(egg, south)), are_mirror_alike(both, skew), has_axis(skew), are_alike(round_cam, moved(round_cam, (half, nil))), are_alike_moved(round_cam, moved(round_cam, (half, nil)))]
[('harmonic', 2), ('middle',), ('turn', 2, 3), None, False, True, False, True]
"""

PAIRS_SIZES_SUMS = """
>>> from framecams.pairs import goes_without_play, is_mate_cam, mate, pair_width, play_wave, playing_harmonics, width_near
>>> from framecams.sizes import area, balanced, deficit, is_balanced, middle, mixed_area, mixed_gap, moments, way_round
>>> from framecams.sums import added, barring_wave, is_barring, needless_waves, product, weight_range, weights_for
>>> arms = (one, one)
>>> [playing_harmonics(oval, oval, arms, east), goes_without_play(oval, oval, arms, north), pair_width(oval, oval, arms, north), pair_width(oval, oval, arms, east), play_wave(oval, round_cam, (one, two), slant)]
[(2,), True, (2, 1), None, ((3, 1), (((0, 1), (0, 1)), ((1, 4), (0, 1))))]
>>> [mate(oval, arms, east, two), is_mate_cam(oval, arms, east, two), is_mate_cam(oval, arms, east, one), width_near(oval, arms, 4), width_near(oval, arms, 3)]
[((1, 1), (((0, 1), (0, 1)), ((-1, 4), (0, 1)))), True, False, 7, 6]
>>> crank, odd = (one, ((half, nil),)), (one, ((nil, nil), ((1, 8), nil), ((1, 16), nil)))
>>> [way_round(oval), area(oval), area(egg), mixed_area(oval, round_cam), deficit(oval), deficit(crank), mixed_gap(oval, round_cam), mixed_gap(oval, oval)]
[(2, 1), (29, 32), (24, 25), (1, 1), (3, 8), (0, 1), (3, 32), (0, 1)]
>>> [moments(crank), middle(crank), moments(odd), middle(odd), is_balanced(egg), balanced(crank)]
[((1, 2), (0, 1)), ((1, 2), (0, 1)), ((-73, 4096), (0, 1)), ((-73, 3936), (0, 1)), True, ((1, 1), ())]
>>> flat, thin = ((two, ((nil, nil), ((1, 4), nil)))), (half, ((nil, nil), ((1, 4), nil)))
>>> [added((round_cam, oval), (one, two)), weights_for((round_cam, oval), flat), weights_for((round_cam, oval), thin), is_barring((round_cam, oval), thin, (one, ((nil, nil), ((-4, 1), nil)))), product(oval, oval)]
[((3, 1), (((0, 1), (0, 1)), ((1, 2), (0, 1)))), ((1, 1), (1, 1)), None, True, (17, 16)]
>>> [weight_range((round_cam, oval, (two, ())), flat, 0), weight_range((round_cam, oval, (two, ())), flat, 1), needless_waves((round_cam, oval, (two, ())))]
[((0, 1), (1, 1)), ((1, 1), (1, 1)), (0, 2)]
"""

CONSOLES = """
>>> from framecams.consoles import Console
>>> from framecams.workshops import Workshop
>>> shop = Workshop()
>>> console = Console(shop)
>>> [console.say("put ei: 1/1; 0/1 0/1; 1/4 0/1"), shop.named("ei") == oval, console.say("cam ei"), console.say("lift ei: 1/1"), console.say("touch ei: 1/2"), console.say("lift ei: west"), console.say("size ei")]
['done', True, '1/1; 0/1 0/1; 1/4 0/1', '3/4', '-12/25', '5/4', '2/1 29/32']
>>> [console.say("frame ei: 3 0 1 2 1/1"), console.say("frame ei: 4 0 1 2 3 1/1"), shop.wish(("turns in", "ei", (3, (0, 1, 2), one)))]
['turns', 'stuck', None]
>>> console.say("put ei: 1/1; 0/1 0/1; 0/1 0/1; 1/10 0/1")
raises Broken(index=0)
>>> [len(shop), console.say("undo"), shop.wishes, console.say("drop ei"), console.say("names")]
[2, 'done', (), 'done', 'none']
"""

CHECKER = """
>>> from framecams.checker import accepts
>>> from framecams.certificates import certify_alike, certify_cam, certify_frame, certify_frames, certify_shared
>>> [accepts(("turns in", egg, square), ()), accepts(("turns in", oval, square), ()), accepts(("barred", oval, square), ("harmonic", 2, (1, 3))), accepts(("barred", oval, square), ("harmonic", 2, (0, 1))), accepts(("no cam", wide), east), accepts(("no cam", wide), north)]
[True, False, True, False, True, False]
>>> [certify_cam(oval)[1], certify_frame(egg, triangle)[1], certify_frames(square, triangle)[1], certify_shared((square, triangle)), certify_alike(oval, egg)[0][0]]
[(), ('harmonic', 3, (0, 1, 2)), 2, (('least shared', ((4, (0, 1, 2, 3), (1, 1)), (3, (0, 1, 2), (1, 1))), 5), ()), 'unlike']
"""

ALL = TURNS + WAVES + SIGNS + CAMS + FEET + FRAMES + LOTS + SPEEDS + NEVERS + ALIKES + PAIRS_SIZES_SUMS
ALL += CONSOLES + CHECKER


class Examples(unittest.TestCase):
    def test_examples_of_the_document(self):
        rows = run_examples(ALL, {})
        self.assertEqual(len(rows), ALL.count(">>> "))
        self.assertEqual(len([wanted for _, _, wanted in rows if wanted is not None]), 39)
        for line, told, wanted in rows:
            with self.subTest(line=line):
                self.assertEqual(told, wanted)

    def test_a_wrong_example_is_noticed(self):
        rows = run_examples(">>> 1 + 1\n3\n>>> [][0:1]\n[]\n>>> int('x')", {})
        self.assertEqual([told == wanted for _, told, wanted in rows], [False, True, False])


if __name__ == "__main__":
    unittest.main()
