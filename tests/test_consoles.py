"""Consoles: each form of line, what is nearly one, and which errors come first."""

import unittest

from framecams import errors
from framecams.consoles import Console
from framecams.turns import turn_of
from framecams.workshops import Workshop
from tests.kinds import NOT_FRACTIONS
from tests.shapes import CAMS, EDGE, FINEST, MANY_CAM, NO_CAMS, POINT, grown, made, numbers_of
from tests.test_frames import CORNER, FRAMES, NOT_FRAMES, OPEN, SQUARE, TRIANGLE
from tests.test_sizes import reckoned_area
from tests.test_workshops import turns_by_number
from tests.values import BIG, EGG, HALF, NIL, NO_VALUES, ONE, OVAL, ROUND_CAM, TWO, WEST, number_of, pair_of
from tests.values import reckoned

OVAL_TEXT = "1/1; 0/1 0/1; 1/4 0/1"
SAFE = {"put": f": {OVAL_TEXT}", "drop": "", "cam": "", "size": "", "lift": ": 1/2", "touch": ": 1/2",
        "frame": ": 3 0 1 2 1/1"}
HALVES = (NIL, ONE, (-1, 1), HALF, (-7, 3), (1, FINEST), (BIG, 7))
# No fraction as it is told.
BAD_FRACTIONS = ("", "1", "1/", "/1", "/", "2/2", "0/2", "2/4", "1/0", "0/0", "1/-1", "-1/-1", "-0/1", "+1/1", "1/+1",
                 "01/1",
                 "1/01", "00/1", "--1/1", "1//1", "1/1/1", " 1/1", "1/1 ", "1 /1", "1/ 1", "1_0/1", "1.0/1", "one/1",
                 "1/1.",
                 "(1, 1)", "1e1/1", "- 1/1", "0x1/1", "1,1", "1\\1", "-/1", "1/-", "~1/1", "1/1;", "(1/1)", "-/-",
                 "1-/1")


def fraction_text(fraction):
    return f"{fraction[0]}/{fraction[1]}"


def wave_text(wave):
    return "; ".join([fraction_text(wave[0])] + [f"{fraction_text(p)} {fraction_text(q)}" for p, q in wave[1]])


def frame_text(frame):
    return " ".join([str(number) for number in (frame[0],) + frame[1]] + [fraction_text(frame[2])])


class Consoles(unittest.TestCase):
    def console(self, **cams):
        shop = Workshop()
        for name, cam in cams.items():
            shop.put(name, cam)
        return Console(shop), shop

    def snapshot(self, shop):
        return {name: shop.named(name) for name in shop.names}, shop.wishes, len(shop)

    def assert_refused(self, console, shop, line, error, name=None, kept=None):
        """Just this error, which keeps this; nothing is changed."""
        before = self.snapshot(shop)
        for call in (lambda: console.say(line), lambda: console.say(line=line)):
            with self.assertRaises(errors.CamError) as caught:
                call()
            self.assertIs(type(caught.exception), error, line)
            self.assertEqual(list(vars(caught.exception)), [name] if name else [])
            if name and error is errors.InvalidPhrase:
                self.assertIs(getattr(caught.exception, name), kept)
            elif name:
                self.assertEqual(getattr(caught.exception, name), kept)
            self.assertEqual(self.snapshot(shop), before)

    def assert_no_phrases(self, lines, **cams):
        console, shop = self.console(**cams)
        for line in lines:
            self.assert_refused(console, shop, line, errors.InvalidPhrase, "given", line)


class Making(Consoles):
    def test_no_workshops(self):
        for value in NO_VALUES + NOT_FRACTIONS + (Workshop, Console(Workshop())):
            for call in (lambda: Console(value), lambda: Console(shop=value)):
                with self.assertRaises(errors.NotAWorkshop) as caught:
                    call()
                self.assertIs(caught.exception.given, value)

    def test_several_about_one_workshop(self):
        shop = Workshop()
        one, two = Console(shop), Console(shop=shop)
        self.assertEqual(one.say(f"put a: {OVAL_TEXT}"), "done")
        self.assertEqual([two.say("names"), shop.named("a"), two.say("undo"), one.say("names")],
                         ["a", OVAL, "done", "none"])


class Changes(Consoles):
    def test_put_and_cam(self):
        console, shop = self.console()
        for many, cam in enumerate(CAMS, start=1):
            text = wave_text(cam)
            self.assertEqual(console.say(f"put ab: {text}"), "done")
            self.assertEqual([shop.named("ab"), console.say("cam ab"), len(shop)], [cam, text, many])

    def test_texts_by_hand(self):
        console, shop = self.console()
        rows = ((OVAL_TEXT, OVAL), ("1/1", ROUND_CAM), ("0/1", (NIL, ())), ("0/1; -3/7 1/2", made(0, ("-3/7", "1/2"))),
                ("1/1; 0/1 0/1; 0/1 0/1; 1/10 0/1", EGG),
                (f"{BIG}/1; {-BIG}/{FINEST} 0/1", made(BIG, (f"{-BIG}/{FINEST}", 0))))
        for text, cam in rows:
            for name in ("a", "zzzzzzzzzzzz", "put", "names", "undo", "west"):
                self.assertEqual(console.say(f"put {name}: {text}"), "done")
                self.assertEqual([shop.named(name), console.say(f"cam {name}")], [cam, text])

    def test_put_that_would_break_a_wish(self):
        console, shop = self.console(a=OVAL, b=EGG)
        shop.wish(("smooth", "b"))
        shop.wish(("smooth", "a"))
        self.assert_refused(console, shop, f"put a: {wave_text(EDGE)}", errors.Broken, "index", 1)
        self.assert_refused(console, shop, f"put b: {wave_text(EDGE)}", errors.Broken, "index", 0)
        self.assertEqual(console.say(f"put c: {wave_text(EDGE)}"), "done")

    def test_drop(self):
        console, shop = self.console(a=OVAL, b=EGG, drop=OVAL)
        shop.wish(("smooth", "b"))
        self.assertEqual([console.say("drop a"), console.say("drop drop"), shop.names], ["done", "done", ("b",)])
        for name in ("a", "drop", "names", "zzzzzzzzzzzz"):
            self.assert_refused(console, shop, f"drop {name}", errors.UnknownName, "given", name)
        self.assert_refused(console, shop, "drop b", errors.InUse, "index", 0)

    def test_undo(self):
        console, shop = self.console(a=OVAL)
        console.say(f"put b: {OVAL_TEXT}")
        shop.wish(("smooth", "b"))
        self.assertEqual([console.say("undo"), shop.wishes, console.say("undo"), shop.names, console.say("undo")],
                         ["done", (), "done", ("a",), "done"])
        for _ in range(2):
            self.assert_refused(console, shop, "undo", errors.NothingToUndo)

    def test_names(self):
        console, shop = self.console()
        self.assertEqual(console.say("names"), "none")
        for name, wanted in (("b", "b"), ("ab", "ab b"), ("none", "ab b none"), ("aa", "aa ab b none")):
            shop.put(name, OVAL)
            self.assertEqual([console.say("names"), console.say(line="names")], [wanted, wanted])
        self.assertEqual(len(shop), 4)


class Questions(Consoles):
    def test_lift_and_touch(self):
        for cam in CAMS:
            console, shop = self.console(a=cam)
            # Nothing is said of texts of numbers of more than 4000 figures.
            for half in HALVES if len(cam[1]) < 4 else HALVES[:5]:
                turn, text = turn_of(half), fraction_text(half)
                self.assertEqual(console.say(f"lift a: {text}"), fraction_text(pair_of(reckoned(cam, turn))))
                self.assertEqual(console.say(f"touch a: {text}"), fraction_text(pair_of(reckoned(grown(cam), turn))))
            self.assertEqual(console.say("lift a: west"), fraction_text(pair_of(reckoned(cam, WEST))))
            self.assertEqual(console.say("touch a: west"), fraction_text(pair_of(reckoned(grown(cam), WEST))))
            self.assertEqual(len(shop), 1)

    def test_by_hand(self):
        console, _ = self.console(ei=OVAL, west=POINT, size=MANY_CAM, frame=EGG)
        rows = (("lift ei: 1/1", "3/4"), ("lift ei: 0/1", "5/4"), ("lift ei: -1/1", "3/4"), ("lift ei: 1/2", "93/100"),
                ("touch ei: 1/2", "-12/25"), ("touch ei: west", "0/1"), ("lift ei: west", "5/4"),
                ("lift west: west", "-3/1"),
                ("touch west: west", "1/2"), ("size ei", "2/1 29/32"), ("size west", "0/1 0/1"),
                ("size frame", "2/1 24/25"),
                ("cam ei", OVAL_TEXT), ("frame ei: 3 0 1 2 1/1", "turns"), ("frame ei: 4 0 1 2 3 1/1", "stuck"),
                ("frame frame: 4 0 1 2 3 1/1", "turns"), ("frame frame: 4 0 1 2 3 1/2", "stuck"),
                ("frame size: 7 0 3 2/1", "turns"), ("names", "ei frame size west"))
        for line, wanted in rows:
            self.assertEqual([console.say(line), console.say(line=line)], [wanted, wanted])

    def test_sizes(self):
        for cam in CAMS:
            console, _ = self.console(a=cam)
            whole = fraction_text(pair_of(reckoned_area(cam, cam)))
            self.assertEqual(console.say("size a"), fraction_text(pair_of(2 * number_of(cam[0]))) + " " + whole)

    def test_frames(self):
        for cam in (OVAL, EGG, ROUND_CAM, MANY_CAM, POINT, (TWO, ())):
            console, _ = self.console(a=cam)
            for frame in (SQUARE, TRIANGLE, CORNER, OPEN):
                wanted = "turns" if turns_by_number(cam, frame) else "stuck"
                self.assertEqual(console.say(f"frame a: {frame_text(frame)}"), wanted)
            for frame in FRAMES:
                self.assertIn(console.say(f"frame a: {frame_text(frame)}"), ("turns", "stuck"))

    def test_unknown_names(self):
        console, shop = self.console(a=OVAL)
        for word, rest in SAFE.items():
            if word != "put":
                for name in ("b", "aa", "names", "zzzzzzzzzzzz"):
                    self.assert_refused(console, shop, f"{word} {name}{rest}", errors.UnknownName, "given", name)
                console.say(f"{word} a{rest}")
                shop.put("a", OVAL)


class NoPhrases(Consoles):
    def test_no_strings(self):
        self.assert_no_phrases([value for value in NO_VALUES + (0, BIG, ("undo",), ["undo"], b"undo")], a=OVAL)

    def test_words(self):
        lines = ["", " ", "a", "undo ", " undo", "Undo", "UNDO", "undo a", "undo: 1", "undo\n", "names ", "names a",
                 "name",
                 "names:", " names", "none", "done", "put", "put ", "drop", "drop ", "cam", "cam ", "size", "size ",
                 "lift",
                 "lift ", "touch", "touch ", "frame", "frame ", "wish a", "trial", "a: 1/1", "help", "lifts a: 1/1",
                 "put: 1/1", ": ", ":", "; ", "undoundo", "undo undo", "names; undo", "drop a; drop a", "named a",
                 "put  a"]
        self.assert_no_phrases(lines, a=OVAL)

    def test_nearly_each_form(self):
        lines = []
        for word, rest in SAFE.items():
            line = f"{word} a{rest}"
            lines += [f"{word}  a{rest}", f"{word}a{rest}", f" {line}", f"{line} ", f"{line}\n",
                      f"{word.upper()} a{rest}",
                      f"{word}\ta{rest}", line + ";", line + "; ", line + " a", line + ":", line + ": ",
                      f"{word}: a{rest}",
                      f"{word} a b{rest}", f"{word}, a{rest}", f"{line} 1/1", f"{word} a {rest}", f"{word} {rest}"]
            if rest:
                lines += [f"{word} a", f"{word} a:", f"{word} a: ", f"{word} a:{rest[2:]}", f"{word} a:  {rest[2:]}",
                          f"{word} a {rest[2:]}", f"{word} a : {rest[2:]}", f"{word} a; {rest[2:]}",
                          f"{word} a{rest}, 1/1"]
            else:
                lines += [f"{word} a: 1/1", f"{word} a: west", f"{word} a: {OVAL_TEXT}", f"{word} a 3 0 1 2 1/1"]
        self.assert_no_phrases(lines, a=OVAL)

    def test_names(self):
        names = ["", "A", "aB", "a1", "1", "a b", "a_b", "abcdefghijklm", "a" * 60, "a-b", "a.b", ":", "a:", "~", "`",
                 "{",
                 "a;", "a ", " a", "-", "a\n", "Zz"]
        lines = [f"{word} {name}{rest}" for word, rest in SAFE.items() for name in names]
        self.assert_no_phrases(lines, a=OVAL)

    def test_fractions(self):
        lines = []
        for text in BAD_FRACTIONS:
            lines += [f"put a: {text}", f"put a: {text}; 0/1 0/1; 1/4 0/1", f"put a: 1/1; {text} 0/1",
                      f"put a: 1/1; 0/1 {text}", f"put a: 9/1; 0/1 0/1; {text} 1/9", f"put a: 9/1; 1/9 {text}; 1/9 1/9",
                      f"lift a: {text}", f"touch a: {text}", f"frame a: 3 0 1 2 {text}"]
        self.assert_no_phrases(lines, a=OVAL)

    def test_waves(self):
        nine = "; ".join(["1/9 0/1"] * 9)
        texts = ["1/1;", "1/1; ", "1/1;0/1 1/4", "1/1;  0/1 1/4", "1/1 ; 0/1 1/4", "1/1, 0/1 1/4", "1/1; 0/1",
                 "1/1; 0/1  1/4",
                 "1/1; 0/1 1/4 0/1", "1/1; 0/1;1/4", "1/1; 0/1,1/4", "1/1; 0/1; 1/4", "1/1 0/1 1/4", "; 1/1",
                 "1/1; ; 0/1 1/4",
                 "1/1; 0/1 0/1", "1/1; 1/2 0/1; 0/1 0/1", f"999/1; {nine}", "1/1; (0/1 1/4)", "1/1;\n0/1 1/4", "west",
                 "none",
                 "1/1; west", "1/1; 0/1 west", "1/1; 0/1 1/4;", "1/1; 0/1 1/4; ", "1/1;; 0/1 1/4", "1/1: 0/1 1/4"]
        texts += [wave_text(wave) for wave in NO_CAMS]
        self.assert_no_phrases([f"put a: {text}" for text in texts], a=OVAL)
        console, _ = self.console()
        eight = "; ".join(["1/9 0/1"] * 8)
        self.assertEqual(console.say(f"put a: 999/1; {eight}"), "done")

    def test_turns(self):
        texts = ["West", "west ", " west", "WEST", "east", "north", "none", "None", "wes", "westwest", "-west",
                 "1/1 0/1",
                 "1/1; 0/1", "3/5 4/5", "((3, 5), (4, 5))", "w", "1/0", "west 1/1", "west;"]
        self.assert_no_phrases([f"{word} a: {text}" for word in ("lift", "touch") for text in texts], a=OVAL)

    def test_frames(self):
        texts = ["", "3", "3 1/1", "3 0 1/1", "1 0 1 1/1", "61 0 1 1/1", "0 0 1 1/1", "-3 0 1 1/1", "3 0 3 1/1",
                 "3 1 0 1/1",
                 "3 0 0 1/1", "3 0 1 1 1/1", "3 -1 0 1/1", "3 0 1", "3 0 1 2", "3 0 1 2 1", "3 0 1 2 0/1",
                 "3 0 1 2 -1/1",
                 "3 0 1 2  1/1", "3  0 1 2 1/1", "3 0 1  2 1/1", "3, 0, 1, 2, 1/1", "3 0,1,2 1/1", "3; 0 1 2; 1/1",
                 "3 0/1 1/1 1/1", "3/1 0 1 1/1", "03 0 1 2 1/1", "3 00 1 2 1/1", "3 0 01 2 1/1", "+3 0 1 2 1/1",
                 "3 -0 1 2 1/1",
                 "3 0 1 2 1/1 1/1", "1/1 0 1 3", "3 0 1 2 west", "3 (0 1 2) 1/1", "60 0 1 2 3 4 5 6 7 8 1/1",
                 "3 0 2 1 1/1",
                 "3 0 1 2\n1/1", "3.0 0 1 1/1", "3 a 1 1/1", "3 0 1 2 3 1/1", f"{BIG} 0 1 1/1"]
        wrong = [frame for frame in NOT_FRAMES if type(frame) is tuple and len(frame) == 3 and type(frame[0]) is int]
        wrong = [frame for frame in wrong if type(frame[1]) is type(frame[2]) is tuple and len(frame[2]) == 2]
        texts += [frame_text(frame) for frame in wrong if all(type(number) is int for number in frame[1] + frame[2])]
        self.assert_no_phrases([f"frame a: {text}" for text in texts], a=OVAL)

    def test_ahead_of_all_else(self):
        # Nothing is under the names, and nothing is to undo; the lines are no phrases first of all.
        lines = [f"put a: {wave_text(EDGE)} ", "put a: 1/1; 0/1 0/1; 1/2 0/1", "lift a: 2/2", "touch a: east",
                 "frame a: 3 0 1 2", "frame a: 3 2 1 0 1/1", "drop a ", "cam A", "size aa:", "undo ",
                 "drop abcdefghijklm"]
        self.assert_no_phrases(lines)
        console, shop = self.console(a=OVAL)
        shop.wish(("smooth", "a"))
        for line in lines:
            self.assert_refused(console, shop, line, errors.InvalidPhrase, "given", line)

    def test_wave_with_numbers_of_many_figures(self):
        console, shop = self.console()
        text = wave_text(made(BIG, *[(f"1/{BIG}", f"-{k}/{BIG}") for k in range(1, 9)]))
        self.assertEqual([console.say(f"put a: {text}"), console.say("cam a")], ["done", text])
        self.assertEqual(len(numbers_of(shop.named("a"))), 9)


if __name__ == "__main__":
    unittest.main()
