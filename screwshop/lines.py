"""LINES round a bar: rings, flutes, leads."""

from screwshop.basics import ONE, ZERO, add, divide, fraction, is_angle, is_below, is_fraction
from screwshop.basics import is_tuple_of, is_within, multiply, negate, round_by, scaled, size_of
from screwshop.basics import subtract, tupled
from screwshop.errors import Unfit


def is_line(thing):
    """Whether thing is a LINE."""
    if is_tuple_of(thing, 2):
        if thing[0] == "ring":
            return is_fraction(thing[1])
        return thing[0] == "flute" and is_angle(thing[1])
    return is_tuple_of(thing, 3) and thing[0] == "lead" and _is_lead_with_phase(thing[1], thing[2])


def _is_lead_with_phase(lead, phase):
    if not is_fraction(lead) or lead == ZERO or not is_fraction(phase):
        return False
    return is_within(phase, ZERO, size_of(lead)) and phase != size_of(lead)


def lead_line(lead, phase):
    """The LINE of this lead whose phase is phase, round by lead."""
    return ("lead", lead, round_by(phase, lead))


def line_at(lead, point):
    """The LINE of this lead through point."""
    lead, (place, angle) = tupled((lead, point))
    return lead_line(lead, subtract(place, multiply(lead, angle)))


def goes_through(line, point):
    """Whether line goes through point."""
    line, (place, angle) = tupled((line, point))
    if line[0] == "ring":
        return line[1] == place
    return angle_on(line, place) == angle


def angle_on(line, place):
    """The ANGLE at which line is at place; of a ring "all" or None."""
    line, place = tupled((line, place))
    if line[0] == "ring":
        return "all" if line[1] == place else None
    if line[0] == "flute":
        return line[1]
    return round_by(divide(subtract(place, line[2]), line[1]), ONE)


def next_on(line, angle, place):
    """The least PLACE, from place on, at which line is at angle; None if there is none."""
    line, angle, place = tupled((line, angle, place))
    if line[0] == "ring":
        return None if is_below(line[1], place) else line[1]
    if line[0] == "flute":
        return place if line[1] == angle else None
    met = add(line[2], multiply(line[1], angle))
    return add(place, round_by(subtract(met, place), line[1]))


def line_moved(line, motion):
    """The LINE that motion makes of line."""
    line, (shift, turn) = tupled((line, motion))
    if line[0] == "ring":
        return ("ring", add(line[1], shift))
    if line[0] == "flute":
        return ("flute", round_by(add(line[1], turn), ONE))
    return lead_line(line[1], add(line[2], subtract(shift, multiply(line[1], turn))))


def line_mirrored(line):
    """The LINE that the mirror makes of line."""
    line = tupled(line)
    if line[0] == "ring":
        return line
    if line[0] == "flute":
        return ("flute", round_by(negate(line[1]), ONE))
    return lead_line(negate(line[1]), line[2])


def ends_turned(line, length):
    """What line is on the bar of this length turned end for end."""
    line, length = tupled((line, length))
    if line[0] == "ring":
        return ("ring", subtract(length, line[1]))
    if line[0] == "flute":
        return line_mirrored(line)
    return lead_line(line[1], subtract(length, line[2]))


def lead_starts(lead, many, phase):
    """The set of many LINES of this lead, evenly apart, one of them through the POINT (phase, 0)."""
    lead, phase = tupled((lead, phase))
    apart = divide(lead, (many, 1))
    return tuple(sorted([lead_line(lead, add(phase, scaled(apart, number))) for number in range(many)]))


def lines_meet(one, other):
    """Whether both LINES share a POINT."""
    one, other = tupled((one, other))
    if one[0] != other[0] or (one[0] == "lead" and one[1] != other[1]):
        return True
    return one == other


def steepness(line):
    """How many turns line makes from a PLACE to the one 1 farther; None of a ring."""
    line = tupled(line)
    if line[0] == "ring":
        return None
    return ZERO if line[0] == "flute" else divide(ONE, line[1])


def line_through(point, far, turns):
    """The LINE from point to far whose ANGLE goes on by the one of far less that of point and turns."""
    point, far = tupled((point, far))
    (place, angle), (end, last) = point, far
    if point == far and turns == 0:
        raise Unfit()
    if place == end:
        return ("ring", place)
    gone_on = add(subtract(last, angle), fraction(turns, 1))
    if gone_on == ZERO:
        return ("flute", angle)
    return line_at(divide(subtract(end, place), gone_on), point)


def turns_made(line, place, end):
    """By how many turns the ANGLE of line goes on from place to end."""
    line, place, end = tupled((line, place, end))
    steep = steepness(line)
    if steep is None:
        raise Unfit()
    return multiply(steep, subtract(end, place))
