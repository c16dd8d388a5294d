"""Wishes of a workshop: what is one, which names stand in it, and whether it holds."""

from framecams.alikes import are_alike
from framecams.cams import breadth_wave, is_smooth
from framecams.feet import stays_between
from framecams.frames import is_frame, turns_in
from framecams.pairs import are_arms, goes_without_play
from framecams.parts import fit, is_name
from framecams.ratios import are_bounds, is_fraction
from framecams.stretches import is_never_below
from framecams.turns import is_turn
from framecams.waves import growth, wave_less

SMOOTH = "smooth"
TURNS_IN = "turns in"
FOOT = "foot"
BREADTH = "breadth"
UNDER = "under"
ALIKE = "alike"
WITHOUT_PLAY = "without play"


def tests_for(word):
    """The tests of the parts behind the word of a wish; None for what is no such word."""
    if word == SMOOTH:
        return [is_name]
    if word == TURNS_IN:
        return [is_name, is_frame]
    if word == FOOT or word == BREADTH:
        return [is_name, is_fraction, is_fraction]
    if word == UNDER or word == ALIKE:
        return [is_name, is_name]
    return [is_name, is_name, are_arms, is_turn] if word == WITHOUT_PLAY else None


def is_wish(value):
    """Whether the value, whatever it is, is a wish."""
    if not isinstance(value, tuple) or len(value) == 0 or not isinstance(value[0], str):
        return False
    word, parts = value[0], value[1:]
    tests = tests_for(word)
    if tests is None or not fit(parts, tests):
        return False
    return are_bounds(parts[1], parts[2]) if word == FOOT or word == BREADTH else True


def names_in(wish):
    """The names that stand in the wish, in a list."""
    word = wish[0]
    if word == UNDER or word == ALIKE or word == WITHOUT_PLAY:
        return [wish[1], wish[2]]
    return [wish[1]]


def holds(wish, cams):
    """Whether the wish holds for a dict of cams under names."""
    word = wish[0]
    cam = cams[wish[1]]
    if word == SMOOTH:
        return is_smooth(cam)
    if word == TURNS_IN:
        return turns_in(cam, wish[2])
    if word == FOOT:
        return stays_between(growth(cam), wish[2], wish[3])
    if word == BREADTH:
        return stays_between(breadth_wave(cam), wish[2], wish[3])
    return holds_of_two(wish, cam, cams[wish[2]])


def holds_of_two(wish, cam, other):
    """Whether a wish about two cams holds."""
    if wish[0] == UNDER:
        return is_never_below(wave_less(other, cam))
    if wish[0] == ALIKE:
        return are_alike(cam, other)
    return goes_without_play(cam, other, wish[3], wish[4])
