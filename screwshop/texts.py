"""Texts of BARS, LATHES and MOTIONS TOLD, written and read."""

from screwshop.bars import is_bar
from screwshop.basics import ZERO, is_fraction, is_number_from_one, tupled
from screwshop.errors import BadLine
from screwshop.motions import is_motion
from screwshop.wheels import is_train
from screwshop.worn import is_screw

FREE_WORDS = ("all", "turns", "shifts", "none")
MOST_STEPS = 2


def fraction_told(value):
    """A FRACTION as it is written."""
    return str(value[0]) if value[1] == 1 else f"{value[0]}/{value[1]}"


def number_read(word):
    """The number that is written so; None if none is."""
    figures = word.removeprefix("-")
    if not figures.isascii() or not figures.isdigit():
        return None
    number = int(word)
    return number if str(number) == word else None


def fraction_read(word):
    """The FRACTION that is written so; None if none is."""
    top, slash, bottom = word.partition("/")
    value = (number_read(top), number_read(bottom) if slash else 1)
    return value if is_fraction(value) and fraction_told(value) == word else None


def lines_of(text):
    """The list of the lines of text, of the empty one none."""
    return text.split("\n") if text else []


def _words_at(lines, number):
    """The list of the words of a line, without its blanks; no words behind the last line."""
    return lines[number].split(" ") if number < len(lines) else [""]


def _told(words):
    """A line of these words and FRACTIONS."""
    return " ".join([word if isinstance(word, str) else fraction_told(word) for word in words])


def bar_text(bar):
    """The text of bar."""
    length, grooves = tupled(bar)
    rows = [("bar", length)]
    for line, start, end, depth in grooves:
        rows.append(("groove",) + line + (start, end, (depth, 1)))
    return "\n".join([_told(row) for row in rows])


def lathe_text(lathe):
    """The text of lathe."""
    screw, (pairs, tumble), (teeth, marks) = tupled(lathe)
    return "\n".join([_told(("screw",) + _screw_words(screw)),
                      _told(["train"] + [f"{driver}:{driven}" for driver, driven in pairs]),
                      _told(("tumble", "yes" if tumble else "no")),
                      _told(("dial", (teeth, 1), (marks, 1)))])


def _screw_words(screw):
    if is_fraction(screw):
        return (screw,)
    words = ()
    for stretch in screw:
        words += ("then",) + stretch if words else stretch
    return words


def motions_text(motions):
    """The text of MOTIONS TOLD."""
    free, steps = tupled(motions)
    return "\n".join([_told(("free", free))] + [_told(("step",) + step) for step in steps])


def bar_read(text):
    """The BAR that has this text."""
    lines = lines_of(text)
    length = _length_read(_words_at(lines, 0))
    if length is None:
        raise BadLine(0)
    grooves = ()
    for number in range(1, len(lines)):
        groove = _groove_read(_words_at(lines, number))
        # the one ahead and this one tell whether it fits: they ascend and lie within the length
        if not is_bar((length, grooves[-1:] + (groove,))):
            raise BadLine(number)
        grooves += (groove,)
    return (length, grooves)


def _length_read(words):
    if len(words) != 2 or words[0] != "bar":
        return None
    length = fraction_read(words[1])
    return length if is_bar((length, ())) else None


def _groove_read(words):
    """What stands there as a GROOVE, maybe of nothing right; None without its word, or with too few words."""
    if words[0] != "groove" or len(words) < 5:
        return None
    values = [fraction_read(word) for word in words[2:]]
    start, end, depth = values[-3:]
    return ((words[1],) + tuple(values[:-3]), start, end, _whole(depth))


def _whole(value):
    """The number for which this FRACTION, or None, stands; None if for none."""
    return value[0] if value is not None and value[1] == 1 else None


def lathe_read(text):
    """The LATHE that has this text."""
    lines, parts = lines_of(text), []
    for number, reader in enumerate(LATHE_READERS):
        part = reader(_words_at(lines, number))
        if part is None:
            raise BadLine(number)
        parts.append(part)
    if len(lines) > len(parts):
        raise BadLine(len(parts))
    screw, pairs, tumble, dial = parts
    return (screw, (pairs, tumble), dial)


def _screw_read(words):
    if words[0] != "screw":
        return None
    screw = fraction_read(words[1]) if len(words) == 2 else _stretches_read(words[1:])
    return screw if is_screw(screw) else None


def _stretches_read(words):
    """What stands there as stretches, maybe of nothing right; None if they do not stand two by two, then between."""
    if words[2::3] != ["then"] * (len(words) // 3) or len(words) - 3 * (len(words) // 3) != 2:
        return None
    return tuple([(fraction_read(turns), fraction_read(pitch)) for turns, pitch in zip(words[::3], words[1::3])])


def _pairs_read(words):
    pairs = tuple([tuple([number_read(own) for own in word.split(":")]) for word in words[1:]])
    return pairs if words[0] == "train" and is_train((pairs, False)) else None


def _tumble_read(words):
    if len(words) != 2 or words[0] != "tumble" or words[1] not in ("yes", "no"):
        return None
    return words[1] == "yes"


def _dial_read(words):
    dial = tuple([number_read(word) for word in words[1:]])
    if words[0] != "dial" or len(dial) != 2 or not all([is_number_from_one(own) for own in dial]):
        return None
    return dial


LATHE_READERS = (_screw_read, _pairs_read, _tumble_read, _dial_read)


def motions_read(text):
    """The MOTIONS TOLD that have this text, in plain form or not."""
    lines, steps = lines_of(text), []
    free = _free_read(_words_at(lines, 0))
    if free is None:
        raise BadLine(0)
    for number in range(1, len(lines)):
        step = _step_read(_words_at(lines, number))
        if step is None or number > MOST_STEPS:
            raise BadLine(number)
        steps.append(step)
    return (free, tuple(steps))


def _free_read(words):
    if len(words) != 2 or words[0] != "free":
        return None
    if words[1] in FREE_WORDS:
        return words[1]
    lead = fraction_read(words[1])
    return None if lead == ZERO else lead


def _step_read(words):
    step = tuple([fraction_read(word) for word in words[1:]])
    return step if words[0] == "step" and is_motion(step) else None
