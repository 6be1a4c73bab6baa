"""DIALS: which LINES closings cut, which marks are safe, how long to wait for a mark."""

from math import gcd, lcm

from screwshop.basics import by_value, divide, fraction, add, inverse, is_number, is_tuple_of, negate, round_by
from screwshop.basics import scaled, screw_turns, size_of, subtract, tupled
from screwshop.errors import NoMark, NoPaper
from screwshop.lines import lead_line
from screwshop.passes import lead_left, phase_number, refuse_worn
from screwshop.wheels import ratio_of


def closings_apart(lathe):
    """By how much of a turn of the spindle closings at one PLACE are apart."""
    lathe = _lathe_told(lathe)
    return divide((1, 1), size_of(ratio_of(lathe[1])))


def _lathe_told(lathe):
    """lathe, made of tuples; Unfit() if its SCREW is worn."""
    lathe = tupled(lathe)
    refuse_worn(lathe)
    return lathe


def how_many_lines(lathe):
    """How many unlike LINES closings cut."""
    return abs(ratio_of(_lathe_told(lathe)[1])[0])


def line_at_count(lathe, count):
    """The LINE that a closing of this count cuts."""
    lathe = _lathe_told(lathe)
    return lead_line(lead_left(lathe), negate(scaled(lathe[0], count)))


def count_of_line(lathe, line):
    """The least count from 0 that cuts line; None if none does."""
    lathe = _lathe_told(lathe)
    number = phase_number(lathe, tupled(line))
    if number is None:
        return None
    many, bottom = how_many_lines(lathe), ratio_of(lathe[1])[1]
    return -number * inverse(bottom, many) % many


def first_at_mark(lathe, mark):
    """The least count from 0 at which mark is met; None if it never is."""
    lathe = _lathe_told(lathe)
    teeth, marks = lathe[2]
    if not 0 <= mark < marks:
        raise NoMark(mark)
    count = fraction(mark * teeth, marks)
    return count[0] if count[1] == 1 else None


def lines_at_mark(lathe, mark):
    """The set of the LINES that closings at this mark cut."""
    lathe = _lathe_told(lathe)
    first, teeth, many = first_at_mark(lathe, mark), lathe[2][0], how_many_lines(lathe)
    if first is None:
        return ()
    counts = range(first, first + many // gcd(many, teeth) * teeth, teeth)
    return tuple(sorted([line_at_count(lathe, count) for count in counts]))


def safe_marks(lathe):
    """The set of the marks that are met and at which one LINE alone is cut."""
    lathe = _lathe_told(lathe)
    teeth, marks = lathe[2]
    if teeth % how_many_lines(lathe) != 0:
        return ()
    return tuple([mark for mark in range(marks) if first_at_mark(lathe, mark) is not None])


def marks_together(lathe, mark):
    """The set of the marks at which that LINE alone is cut which is cut at mark; () if mark is not safe."""
    lathe = _lathe_told(lathe)
    first, many, safe = first_at_mark(lathe, mark), how_many_lines(lathe), safe_marks(lathe)
    if mark not in safe:
        return ()
    return tuple([own for own in safe if (first_at_mark(lathe, own) - first) % many == 0])


def unlike_counts(lathe, mark):
    """The least pair of counts at both of which mark is met, with unlike LINES; None if there is none."""
    lathe = _lathe_told(lathe)
    first, teeth = first_at_mark(lathe, mark), lathe[2][0]
    if first is None or teeth % how_many_lines(lathe) == 0:
        return None
    return (first, first + teeth)


def is_unlike_counts(lathe, mark, thing):
    """Whether thing is a pair of counts at both of which mark is met, with unlike LINES."""
    lathe = _lathe_told(lathe)
    first, teeth = first_at_mark(lathe, mark), lathe[2][0]
    if first is None or not is_tuple_of(thing, 2) or not is_number(thing[0]) or not is_number(thing[1]):
        return False
    if (thing[0] - first) % teeth != 0 or (thing[1] - first) % teeth != 0:
        return False
    return (thing[0] - thing[1]) % how_many_lines(lathe) != 0


def dials_that_do(lathe, most):
    """The numbers of teeth, to most, with which mark 0 would be safe."""
    many = how_many_lines(lathe)
    return list(range(many, most + 1, many))


def dial_for_all(lathes):
    """The least number of teeth with which mark 0 would be safe on each of lathes."""
    teeth = 1
    for lathe in lathes:
        teeth = lcm(teeth, how_many_lines(lathe))
    return teeth


def wait_for_marks(lathe, turned, place, marks):
    """By how much the spindle must be turned on until the nut can close at place with one of marks met."""
    lathe = _lathe_told(lathe)
    turned, place = tupled((turned, place))
    counts = [first_at_mark(lathe, mark) for mark in marks]
    waits = [_wait_for_count(lathe, turned, place, count) for count in counts if count is not None]
    if not waits:
        raise NoPaper()
    return by_value(waits)[0]


def _wait_for_count(lathe, turned, place, count):
    """By how much it must be turned on for this count, or one whole turns of the DIAL beside it."""
    ratio = ratio_of(lathe[1])
    closing = divide(add((count, 1), screw_turns(lathe[0], place)), ratio)
    return round_by(subtract(closing, turned), divide((lathe[2][0], 1), ratio))
