"""[22]: texts, written word by word; read by another reader; each word of each line spoilt."""

import random
import re
import unittest
from fractions import Fraction
from math import gcd

from screwshop.bars import is_bar, plain_bar
from screwshop.errors import BadLine
from screwshop.motions import motions_of
from screwshop.passes import is_lathe
from screwshop.texts import bar_read, bar_text, lathe_read, lathe_text, motions_read, motions_text
from tests.test_lines import pair, told

O, HALF, ONE, TWO, THREE = (0, 1), (1, 2), (1, 1), (2, 1), (3, 1)
BIG = (-(10 ** 399) - 7, 10 ** 398 + 3)
RIGHT, LEFT = ("lead", (3, 2), (1, 8)), ("lead", (-3, 2), O)
BARS = [(ONE, ()), ((7, 3), ()), ((10, 1), ((("flute", HALF), O, (3, 2), 2), (LEFT, ONE, (4, 1), 3), (("ring", (5, 1)), (5, 1), (5, 1), 1))),
        (TWO, ((("flute", O), O, TWO, 1), (("ring", O), O, O, 20), (("ring", TWO), TWO, TWO, 1))), (THREE, ((RIGHT, HALF, THREE, 7),)),
        (THREE, ((LEFT, O, ONE, 1), (LEFT, O, ONE, 2), (LEFT, O, TWO, 1), (RIGHT, HALF, (5, 2), 1), (RIGHT, (1, 3), HALF, 1))),
        ((10 ** 400 - 1, 1), ((("lead", BIG, O), (1, 10 ** 399), (10 ** 399, 7), 10 ** 399),))]
WORN = [((THREE, (1, 4)), (HALF, (1, 5))), ((ONE, THREE),), ((ONE, ONE), (ONE, TWO), ((7, 3), ONE), (TWO, (1, 9)))]
LATHES = [(screw, train, dial) for screw in [(1, 4), (5, 1)] + WORN
          for train in [((), False), (((20, 40),), True), (((20, 40), (30, 90), (1, 1)), False)] for dial in [(16, 4), (1, 1)]]
LATHES.append(((10 ** 399 + 1, 10 ** 399), (((10 ** 399, 3),), False), (10 ** 399, 1)))
MOTIONS = [("all", ()), ("turns", ()), ("shifts", ()), ("none", ()), ((1, 4), ()), ((-7, 3), ()), ("shifts", ((O, (1, 3)),)), ((3, 1), ((O, HALF),)),
           ("none", ((O, HALF),)), ("none", (((3, 2), (2, 5)),)), ("none", ((O, (1, 3)), (TWO, (1, 4)))), ("none", ((TWO, O),))]
# these are no plain form, but have texts that are read
UNPLAIN = [("all", ((O, HALF),)), ("turns", ((TWO, O), (TWO, O))), ((1, 4), (((1, 8), O),)), ("none", (((-3, 2), (1, 2)), (O, O))), ("shifts", ((ONE, HALF), (O, O)))]


def word(value):
    return str(Fraction(*value))


def bar_by_hand(bar):
    lines = ["bar " + word(bar[0])]
    for line, start, end, depth in bar[1]:
        lines.append(" ".join(["groove", line[0]] + [word(own) for own in line[1:] + (start, end)] + [str(depth)]))
    return "\n".join(lines)


def lathe_by_hand(lathe):
    screw, (pairs, tumble), (teeth, marks) = lathe
    stretches = [screw] if isinstance(screw[0], int) else screw
    words = [word(own) if isinstance(own[0], int) else word(own[0]) + " " + word(own[1]) for own in stretches]
    return "\n".join(["screw " + " then ".join(words), "".join(["train"] + [" %d:%d" % own for own in pairs]),
                      "tumble " + ("yes" if tumble else "no"), "dial %d %d" % (teeth, marks)])


def motions_by_hand(motions):
    free, steps = motions
    return "\n".join(["free " + (free if isinstance(free, str) else word(free))] + ["step %s %s" % (word(shift), word(turn)) for shift, turn in steps])


def fraction(text):
    """The FRACTION, or ValueError."""
    found = re.fullmatch("(-?)(0|[1-9][0-9]*)(?:/([1-9][0-9]*))?", text, re.ASCII)
    if not found:
        raise ValueError
    top, bottom = int(found[1] + found[2]), int(found[3] or 1)
    if found[3] == "1" or (found[1] and top == 0) or gcd(top, bottom) != 1:
        raise ValueError
    return (top, bottom)


def number(text):
    if not re.fullmatch("[1-9][0-9]*", text, re.ASCII):
        raise ValueError
    return int(text)


def refuse(wrong):
    if wrong:
        raise ValueError


def above_zero(text):
    value = fraction(text)
    refuse(value[0] <= 0)
    return value


def angle(text):
    value = fraction(text)
    refuse(not 0 <= told(value) < 1)
    return value


def groove(words, length, last):
    refuse(words[0] != "groove")
    if words[1] == "lead":
        lead, phase = fraction(words[2]), fraction(words[3])
        refuse(lead == O or not 0 <= told(phase) < abs(told(lead)))
        line, rest = ("lead", lead, phase), words[4:]
    elif words[1] == "flute":
        line, rest = ("flute", angle(words[2])), words[3:]
    else:
        refuse(words[1] != "ring")
        line, rest = ("ring", fraction(words[2])), words[3:]
    refuse(len(rest) != 3)
    start, end, depth = fraction(rest[0]), fraction(rest[1]), number(rest[2])
    refuse(not (start == end == line[1] if line[0] == "ring" else told(start) < told(end)))
    found = (line, start, end, depth)
    refuse(told(start) < 0 or told(end) > told(length) or (last is not None and found <= last))
    return found


def read_by_hand(kind, text):
    """What has this text, or the number of the first line that is wrong."""
    lines = text.split("\n") if text else []
    at = 0
    try:
        if kind == "bar":
            words = lines[0].split(" ")
            refuse(len(words) != 2 or words[0] != "bar")
            length, grooves = above_zero(words[1]), []
            for at in range(1, len(lines)):
                grooves.append(groove(lines[at].split(" "), length, grooves[-1] if grooves else None))
            return (length, tuple(grooves))
        if kind == "motions":
            words = lines[0].split(" ")
            refuse(len(words) != 2 or words[0] != "free")
            free = words[1] if words[1] in ("all", "turns", "shifts", "none") else fraction(words[1])
            refuse(free == O)
            steps = []
            for at in range(1, len(lines)):
                words = lines[at].split(" ")
                refuse(len(words) != 3 or words[0] != "step" or at > 2)
                steps.append((fraction(words[1]), angle(words[2])))
            return (free, tuple(steps))
        parts = []
        for at, reader in enumerate((screw_by_hand, train_by_hand, tumble_by_hand, dial_by_hand)):
            parts.append(reader(lines[at].split(" ")))
        at = 4
        refuse(len(lines) > 4)
        return (parts[0], (parts[1], parts[2]), parts[3])
    except (ValueError, IndexError):
        return at


def screw_by_hand(words):
    refuse(words[0] != "screw")
    stretches = [own.split(" ") for own in " ".join(words[1:]).split(" then ")]
    if len(stretches) == 1 and len(stretches[0]) == 1:
        return above_zero(stretches[0][0])
    for own in stretches:
        refuse(len(own) != 2)
    return tuple((above_zero(turns), above_zero(pitch)) for turns, pitch in stretches)


def train_by_hand(words):
    refuse(words[0] != "train")
    for own in words[1:]:
        refuse(own.count(":") != 1)
    return tuple(tuple(map(number, own.split(":"))) for own in words[1:])


def tumble_by_hand(words):
    refuse(len(words) != 2 or words[0] != "tumble" or words[1] not in ("yes", "no"))
    return words[1] == "yes"


def dial_by_hand(words):
    refuse(len(words) != 3 or words[0] != "dial")
    return (number(words[1]), number(words[2]))


def spoilt_words(own):
    """What may stand there in place of a word."""
    found = ["", " ", "x", own + " ", " " + own, own + " " + own, "0" + own, "+" + own, "-" + own, own + "/1", own + "/", "/" + own, own + "/0",
             own + "\t", "\t" + own, own.upper(), own + "x", "-0", "1/1", "2/4", "0/3", "3/-2", "-1/2", "1/02", "01", "0", "7", "1/2", "-7", "10/3", "1e3",
             "1.5", "1_0", "\u0663", "\u00b2", "\uff11", own + "\r", "None", "True", "ring", "flute", "lead", "then", "yes", "no", "all", "none", "1:2", "0:2", "1:0", "1:2:3",
             ":", "1:", ":2", "-1:2", "1:02", "1 : 2", "bar", "groove", "screw", "train", "tumble", "dial", "free", "step", "999999999999999"]
    return found


def spoilt_texts(text):
    """Texts that differ in a word, in a line, in what stands behind the last one."""
    lines = text.split("\n")
    found = ["", "\n", text + "\n", "\n" + text, text + "\n\n", text + " ", " " + text, text.replace("\n", "\n\n"), text.replace("\n", "\r\n"), text.replace("\n", " "),
             text.replace(" ", "  "), text.replace(" ", "\t"), text.replace(" ", "\n"), "\n".join(lines[::-1]), text.replace(" ", ""), text + "\n" + lines[-1], text + "\n" + lines[0]]
    for at, line in enumerate(lines):
        words = line.split(" ")
        others = [" ".join(words[:own] + words[own + 1:]) for own in range(len(words))]
        others += [" ".join(words[:own] + [words[own], words[own]] + words[own + 1:]) for own in range(len(words))]
        others += [" ".join(words[:own] + [more] + words[own + 1:]) for own in range(len(words)) for more in spoilt_words(words[own])]
        others += [" ".join(words[:own] + [words[own + 1], words[own]] + words[own + 2:]) for own in range(len(words) - 1)]
        found += ["\n".join(lines[:at] + [other] + lines[at + 1:]) for other in others]
        found += ["\n".join(lines[:at] + lines[at + 1:]), "\n".join(lines[:at]), "\n".join(lines[:at] + [line] + lines[at:]), "\n".join(lines[:at] + [""] + lines[at:])]
    return found


class Written(unittest.TestCase):
    def test_bars(self):
        for bar in BARS:
            self.assertTrue(is_bar(bar), bar)
            self.assertEqual(bar_text(bar), bar_by_hand(bar))
            self.assertEqual(bar_read(bar_text(bar)), bar)

    def test_lathes(self):
        for lathe in LATHES:
            self.assertTrue(is_lathe(lathe))
            self.assertEqual(lathe_text(lathe), lathe_by_hand(lathe))
            self.assertEqual(lathe_read(lathe_text(lathe)), lathe)

    def test_motions(self):
        for motions in MOTIONS + UNPLAIN:
            self.assertEqual(motions_text(motions), motions_by_hand(motions))
            self.assertEqual(motions_read(motions_text(motions)), motions)

    def test_motions_of_bands(self):
        for band in [(), ((LEFT, 1),), ((("ring", ONE), 1),), ((LEFT, 1), (RIGHT, 2)), ((("flute", O), 1), (("flute", HALF), 1))]:
            motions = motions_of(band)
            self.assertEqual(motions_read(motions_text(motions)), motions)


class Spoilt(unittest.TestCase):
    def check(self, kind, reader, writer, texts):
        some = {True: 0, False: 0}
        for text in texts:
            found = read_by_hand(kind, text)
            good = isinstance(found, tuple)
            some[good] += 1
            if good:
                self.assertEqual(reader(text), found, repr(text))
                self.assertEqual(writer(found), text)
            else:
                with self.assertRaises(BadLine, msg=repr(text)) as caught:
                    reader(text)
                self.assertEqual(caught.exception.number, found, repr(text))
        self.assertTrue(min(some.values()) > 20, some)

    def test_bars(self):
        texts = [text for bar in BARS[:6] for text in spoilt_texts(bar_by_hand(bar))]
        self.check("bar", bar_read, bar_text, texts)

    def test_lathes(self):
        texts = [text for lathe in LATHES[::3] for text in spoilt_texts(lathe_by_hand(lathe))]
        self.check("lathe", lathe_read, lathe_text, texts)

    def test_motions(self):
        texts = [text for motions in MOTIONS + UNPLAIN for text in spoilt_texts(motions_by_hand(motions))]
        self.check("motions", motions_read, motions_text, texts)

    def test_lines_of_one_in_place_of_another(self):
        chance = random.Random(22)
        pool = [line for text in [bar_by_hand(own) for own in BARS[:6]] + [lathe_by_hand(own) for own in LATHES[::5]] for line in text.split("\n")] + [""]
        texts = ["\n".join(chance.sample(pool, chance.randrange(1, 5))) for _ in range(500)]
        texts += [bar_by_hand(bar) for bar in BARS] * 4
        self.check("bar", bar_read, bar_text, texts)

    def test_grooves_in_another_order_and_beyond_the_length(self):
        lines = bar_by_hand(BARS[5]).split("\n")
        for one, other in [(1, 2), (2, 3), (4, 5), (1, 5)]:
            mixed = list(lines)
            mixed[one], mixed[other] = mixed[other], mixed[one]
            with self.assertRaises(BadLine) as caught:
                bar_read("\n".join(mixed))
            self.assertEqual(caught.exception.number, read_by_hand("bar", "\n".join(mixed)))
        for text, line in [("bar 2\ngroove flute 0 0 5/2 1", 1), ("bar 2\ngroove flute 0 -1/2 1 1", 1), ("bar 2\ngroove ring 3 3 3 1", 1), ("bar 2\ngroove ring -1 -1 -1 1", 1),
                           ("bar 2\ngroove ring 1 1 1 1\ngroove flute 0 0 1 1", 2), ("bar 2\ngroove ring 1 1 1 1\ngroove ring 1 1 1 1", 2), ("bar 0", 0), ("bar -1", 0), ("bar", 0), ("bar 1 ", 0),
                           ("bar 2\ngroove ring 1 1 1 0", 1), ("bar 2\ngroove ring 1 1 1 1/2", 1), ("bar 2\ngroove ring 1 1 3/2 1", 1), ("bar 2\ngroove flute 1 0 1 1", 1),
                           ("bar 2\ngroove lead 0 0 0 1 1", 1), ("bar 2\ngroove lead 1 1 0 1 1", 1), ("bar 2\ngroove lead 1 0 0 1", 1), ("bar 2\ngroove", 1), ("bar 2\ngroove ring 1 1 1 1\n", 2)]:
            with self.assertRaises(BadLine) as caught:
                bar_read(text)
            self.assertEqual(caught.exception.number, line, text)

    def test_lines_wanting_and_too_many(self):
        lines = lathe_by_hand(LATHES[0]).split("\n")
        for many in range(4):
            with self.assertRaises(BadLine) as caught:
                lathe_read("\n".join(lines[:many]))
            self.assertEqual(caught.exception.number, many)
        for text, line in [("\n".join(lines) + "\n", 4), ("\n".join(lines + lines), 4), ("\n" + "\n".join(lines), 0), ("screw 1\ntrain 1:2 \ntumble no", 1)]:
            with self.assertRaises(BadLine) as caught:
                lathe_read(text)
            self.assertEqual(caught.exception.number, line)
        for text, line in [("", 0), ("free", 0), ("free 0", 0), ("free none\nstep 0 1/2\nstep 1 0\nstep 2 0", 3), ("free none\nstep 0 1", 1), ("free none\n", 1), ("free all\nstep 0 1/2\n", 2)]:
            with self.assertRaises(BadLine) as caught:
                motions_read(text)
            self.assertEqual(caught.exception.number, line)


class Whole(unittest.TestCase):
    def test_text_of_what_was_read_is_the_same(self):
        chance = random.Random(3)
        for _ in range(60):
            grooves = set()
            for _ in range(chance.randrange(6)):
                lead = Fraction(chance.choice([-3, -1, 1, 2, 5]), chance.choice([1, 2, 7]))
                phase = Fraction(chance.randrange(10), 3) % abs(lead)
                start, end = sorted(chance.sample(range(0, 19), 2))
                grooves.add((chance.choice([("lead", pair(lead), pair(phase)), ("flute", pair(Fraction(chance.randrange(5), 5)))]),
                             pair(Fraction(start, 2)), pair(Fraction(end, 2)), chance.randrange(1, 5)))
            bar = ((9, 1), tuple(sorted(grooves)))
            for own in (bar, plain_bar(bar)):
                text = bar_text(own)
                self.assertEqual(bar_read(text), own)
                self.assertEqual(bar_text(bar_read(text)), text)


if __name__ == "__main__":
    unittest.main()
