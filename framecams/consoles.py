"""Consoles: workshops by lines of text."""

from framecams.errors import InvalidPhrase, NotAWorkshop
from framecams.frames import turns_in
from framecams.phrases import CAM, DROP, LIFT, NAMES, PUT, SIZE, TOUCH, UNDO, fraction_text, phrase_of, wave_text
from framecams.sizes import area, way_round
from framecams.waves import growth, worth
from framecams.workshops import Workshop

DONE = "done"
NONE = "none"
TURNS = "turns"
STUCK = "stuck"


class Console:
    """Takes lines about a workshop and answers them."""

    def __init__(self, shop):
        if not isinstance(shop, Workshop):
            raise NotAWorkshop(shop)
        self.shop = shop

    def say(self, line):
        """The answer to the line."""
        phrase = phrase_of(line)
        if phrase is None:
            raise InvalidPhrase(line)
        word, name, value = phrase
        if word == PUT or word == DROP or word == UNDO:
            self._change(word, name, value)
            return DONE
        if word == NAMES:
            return " ".join(self.shop.names) if len(self.shop.names) > 0 else NONE
        return answer_about(self.shop.named(name), word, value)

    def _change(self, word, name, value):
        """Change the workshop as the words tell."""
        if word == PUT:
            self.shop.put(name, value)
        elif word == DROP:
            self.shop.drop(name)
        else:
            self.shop.undo()


def answer_about(cam, word, value):
    """The answer to what is asked of the cam."""
    if word == CAM:
        return wave_text(cam)
    if word == LIFT:
        return fraction_text(worth(cam, value))
    if word == TOUCH:
        return fraction_text(worth(growth(cam), value))
    if word == SIZE:
        return fraction_text(way_round(cam)) + " " + fraction_text(area(cam))
    return TURNS if turns_in(cam, value) else STUCK
