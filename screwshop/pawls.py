"""Pawls: TRACKS of grooves to and fro, where a pawl is, what it comes through."""

from math import gcd

from screwshop.bars import plain_bar
from screwshop.basics import ONE, ZERO, add, by_value, divide, floor_of, fraction, is_below, is_fraction_above_zero
from screwshop.basics import is_number, is_number_from_one, is_tuple_of, is_whole, is_within, multiply
from screwshop.basics import negate, round_by, scaled, subtract, times_round, tupled
from screwshop.errors import NoPaper, NoStart, Unfit
from screwshop.lines import angle_on, lead_line


def is_track(thing):
    """Whether thing is a TRACK."""
    if not is_tuple_of(thing, 4) or not is_number_from_one(thing[3]):
        return False
    if not all([is_fraction_above_zero(part) for part in thing[:3]]):
        return False
    return is_whole(scaled(_cycle_of(thing), thing[3]))


def _cycle_of(track):
    """The turns of a going and a coming."""
    length, right, left, _ = track
    return add(divide(length, right), divide(length, left))


def beat_of(track):
    """The beat of track."""
    track = tupled(track)
    return scaled(_cycle_of(track), track[3])[0]


def turns_of(track):
    """The pair of the turns of a going, of a coming."""
    length, right, left, _ = tupled(track)
    return (divide(length, right), divide(length, left))


def bar_of_track(track, depth):
    """The BAR for which track stands, all grooves of this depth."""
    length, right, left, starts = tupled(track)
    grooves = []
    for lead in (right, negate(left)):
        for number in range(starts):
            line = lead_line(lead, negate(multiply(lead, fraction(number, starts))))
            grooves.append((line, ZERO, length, depth))
    return (length, tuple(sorted(grooves)))


def track_of(bar):
    """The TRACK whose BAR, turned by some ANGLE, has the GROOVES of the plain BAR of bar, but for depths."""
    length, grooves = plain_bar(bar)
    lines = [line for line, start, end, _ in grooves if line[0] == "lead" and (start, end) == (ZERO, length)]
    leads = by_value([line[1] for line in lines])
    if len(lines) != len(grooves) or len(leads) != 2:
        raise Unfit()
    left, right = leads
    near, far = [by_value([angle_on(line, ZERO) for line in lines if line[1] == lead]) for lead in leads]
    track = (length, right, negate(left), len(far))
    if not is_track(track) or near != far or not _are_evenly_round(near):
        raise Unfit()
    return track


def _are_evenly_round(angles):
    """Whether these ANGLES, ascending, are evenly apart, round by 1."""
    apart = (1, len(angles))
    return all([add(angle, apart) in angles + [add(angles[0], ONE)] for angle in angles])


def _start_there(track, start):
    if not 0 <= start < track[3]:
        raise NoStart(start)


def start_after(track, start, many):
    """Where it is behind many goings and comings."""
    _start_there(track, start)
    return (start + many * beat_of(track)) % track[3]


def pawl_at(track, start, turns):
    """The POINT where it is behind turns."""
    track, turns = tupled((track, turns))
    _start_there(track, start)
    length, right, left, starts = track
    gone, going = round_by(turns, _cycle_of(track)), divide(length, right)
    place = multiply(gone, right)
    if is_below(going, gone):
        place = subtract(length, multiply(subtract(gone, going), left))
    return (place, round_by(add(turns, fraction(start, starts)), ONE))


def groove_at(track, start, turns):
    """The pair ("right" or "left", number) of the groove in which it is behind turns."""
    track, turns = tupled((track, turns))
    cycle = _cycle_of(track)
    own = start_after(track, start, floor_of(divide(turns, cycle)))
    if is_below(round_by(turns, cycle), turns_of(track)[0]):
        return ("right", own)
    return ("left", start_after(track, own, 1))


def round_of(track):
    """The pair (how many goings and comings, turns) of a round."""
    track = tupled(track)
    many = track[3] // gcd(beat_of(track), track[3])
    return (many, scaled(_cycle_of(track), many))


def starts_met(track, start):
    """The set of the starts that it comes to."""
    _start_there(track, start)
    return tuple(sorted([start_after(track, start, many) for many in range(round_of(track)[0])]))


def comes_through(track):
    """Whether a round comes through all grooves."""
    return gcd(beat_of(track), track[3]) == 1


def divisor_paper(track):
    """The least number above 1 that divides both beat and starts."""
    divisor = gcd(beat_of(track), track[3])
    for number in range(2, divisor + 1):
        if divisor % number == 0:
            return number
    raise NoPaper()


def is_divisor_paper(track, thing):
    """Whether thing is a number above 1 that divides both beat and starts."""
    return is_number(thing) and thing > 1 and beat_of(track) % thing == 0 and track[3] % thing == 0


def crossing_places(track):
    """The tuple of the PLACES at which a right groove meets left ones."""
    beat, length = beat_of(track), tupled(track[0])
    return tuple([multiply(length, fraction(number, beat)) for number in range(beat + 1)])


def turns_to(track, start, point):
    """The least turns behind which it is at point; None if never."""
    track, (place, angle) = tupled((track, point))
    _start_there(track, start)
    length, right, left, starts = track
    if not is_within(place, ZERO, length):
        return None
    cycle, ahead = _cycle_of(track), subtract(angle, fraction(start, starts))
    found = []
    for gone in (divide(place, right), subtract(cycle, divide(place, left))):
        # as the ANGLE goes on with the turns, it tells behind how many goings and comings that is
        many = times_round(cycle, subtract(ahead, gone))
        if many is not None:
            found.append(round_by(add(gone, scaled(cycle, many)), scaled(cycle, cycle[1])))
    return by_value(found)[0] if found else None


def starts_through(track, point):
    """The set of the starts from which it ever is at point."""
    return tuple([start for start in range(track[3]) if turns_to(track, start, point) is not None])


def pawls_meet(track, start, other, late):
    """The least turns, from late on, behind which both pawls are at one POINT; None if never."""
    track, late = tupled((track, late))
    _start_there(track, start)
    _start_there(track, other)
    length, right, _, starts = track
    if not is_whole(subtract(late, fraction(other - start, starts))):
        return None
    cycle = _cycle_of(track)
    behind = divide(round_by(late, cycle), cycle)
    # while the second one goes for the first time the first one comes towards it, or they are at one POINT all along
    gone = ZERO if behind == ZERO else divide(multiply(length, subtract(ONE, behind)), right)
    return add(late, gone)


def least_length(right, left, starts, low):
    """The least length, low or more, with which it is a TRACK and a round comes through all."""
    right, left, low = tupled((right, left, low))
    beat_by_length = scaled(add(divide(ONE, right), divide(ONE, left)), starts)
    beat = -floor_of(negate(multiply(low, beat_by_length)))
    while gcd(beat, starts) != 1:
        beat += 1
    return divide((beat, 1), beat_by_length)
