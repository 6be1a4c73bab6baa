"""Passes of a LATHE: when the nut closes, what a pass leaves, how a BAR is cut."""

from screwshop.basics import ONE, ZERO, add, divide, fits_screw, fraction, greater, inverse, is_below, is_fraction
from screwshop.basics import is_number_from_one, is_tuple_of, is_whole, is_worn, lesser, multiply
from screwshop.basics import round_by, scaled, screw_place, screw_turns, subtract, tupled
from screwshop.bars import plain_bar, plain_grooves
from screwshop.errors import NoClosing, NoPaper, Unfit
from screwshop.lines import line_at
from screwshop.wheels import is_train, ratio_of


def is_lathe(thing):
    """Whether thing is a LATHE."""
    if not is_tuple_of(thing, 3) or not fits_screw(thing[0]) or not is_train(thing[1]):
        return False
    dial = thing[2]
    return is_tuple_of(dial, 2) and is_number_from_one(dial[0]) and is_number_from_one(dial[1])


def refuse_worn(lathe):
    """Unfit() if the SCREW of lathe is worn."""
    if is_worn(lathe[0]):
        raise Unfit()


def closes_at(lathe, turned, place):
    """The K of a pass that begins so."""
    lathe, turned, place = tupled((lathe, turned, place))
    ahead = subtract(multiply(ratio_of(lathe[1]), turned), screw_turns(lathe[0], place))
    if not is_whole(ahead):
        raise NoClosing()
    return ahead[0]


def next_closing(lathe, turned, place):
    """The least t, not below turned, at which the nut closes at place."""
    lathe, turned, place = tupled((lathe, turned, place))
    ratio = ratio_of(lathe[1])
    some_closing = divide(screw_turns(lathe[0], place), ratio)
    return add(turned, round_by(subtract(some_closing, turned), divide(ONE, ratio)))


def dial_shows(lathe, turned, place):
    """The ANGLE that the DIAL shows, and the number of the mark met, or None."""
    count = closes_at(lathe, turned, place)
    teeth, marks = lathe[2]
    shown = fraction(count % teeth, teeth)
    mark = scaled(shown, marks)
    return (shown, mark[0] if is_whole(mark) else None)


def place_behind(lathe, turned, place, t):
    """Where the carriage is when the spindle is turned by t in all."""
    lathe, t = tupled((lathe, t))
    count = closes_at(lathe, turned, place)
    return screw_place(lathe[0], subtract(multiply(ratio_of(lathe[1]), t), (count, 1)))


def run_out(lathe, turned, place, out):
    """The turns of the spindle, in all, at which the carriage is at out."""
    lathe, out = tupled((lathe, out))
    count = closes_at(lathe, turned, place)
    return divide(add((count, 1), screw_turns(lathe[0], out)), ratio_of(lathe[1]))


def cut_groove(lathe, cut):
    """The GROOVE that this CUT leaves."""
    lathe, (turned, place, out, depth) = tupled((lathe, cut))
    refuse_worn(lathe)
    closes_at(lathe, turned, place)
    line = line_at(lead_left(lathe), (place, round_by(turned, ONE)))
    return (line, lesser(place, out), greater(place, out), depth)


def lead_left(lathe):
    """The lead of all LINES that passes leave by a SCREW that is not worn."""
    return multiply(lathe[0], ratio_of(lathe[1]))


def bar_after(lathe, bar, cuts):
    """The plain BAR behind all these CUTS."""
    lathe, (length, grooves), cuts = tupled((lathe, bar, cuts))
    refuse_worn(lathe)
    left = list(grooves)
    for cut in cuts:
        groove = cut_groove(lathe, cut)
        if is_below(groove[1], ZERO) or is_below(length, groove[2]):
            raise Unfit()
        left.append(groove)
    return (length, plain_grooves(left))


def start_for(lathe, line, place):
    """The least turned from 0 with which a pass from place leaves POINTS of line."""
    lathe, line, place = tupled((lathe, line, place))
    refuse_worn(lathe)
    number = phase_number(lathe, line)
    if number is None:
        raise NoPaper()
    # the tool meets line once a turn; which of these turns closes the nut is the same round by the bottom
    top, bottom = ratio_of(lathe[1])
    first = divide(subtract(place, line[2]), line[1])
    return round_by(add(first, (number * inverse(top, bottom), 1)), (bottom, 1))


def phase_number(lathe, line):
    """How many times pitch divided by the bottom of the ratio the phase is; None if no pass leaves line."""
    if line[0] != "lead" or line[1] != lead_left(lathe):
        return None
    number = scaled(divide(line[2], lathe[0]), ratio_of(lathe[1])[1])
    return number[0] if is_whole(number) else None


def unmade(lathe, bar):
    """The number of the first GROOVE of bar whose LINE no pass leaves, None without."""
    lathe, bar = tupled((lathe, bar))
    refuse_worn(lathe)
    for number, groove in enumerate(bar[1]):
        if phase_number(lathe, groove[0]) is None:
            return number
    return None


def cuts_for(lathe, bar):
    """For each GROOVE of plain_bar(bar) the CUT from its start to its end."""
    lathe = tupled(lathe)
    refuse_worn(lathe)
    return tuple([(start_for(lathe, line, start), start, end, depth)
                  for line, start, end, depth in plain_bar(bar)[1]])


def are_cuts_for(lathe, bar, thing):
    """Whether thing is CUTS that leave, on a BAR without GROOVES as long, what bar has."""
    lathe, bar = tupled((lathe, bar))
    refuse_worn(lathe)
    if not isinstance(thing, tuple) or not all([_is_cut(cut) for cut in thing]):
        return False
    try:
        left = bar_after(lathe, (bar[0], ()), thing)
    except (NoClosing, Unfit):
        return False
    return left == plain_bar(bar)


def _is_cut(thing):
    if not is_tuple_of(thing, 4) or not all([is_fraction(part) for part in thing[:3]]):
        return False
    return thing[1] != thing[2] and is_number_from_one(thing[3])


def same_cuts(lathe, one, other):
    """Whether both CUTS leave the same depth at each POINT, on a bar without ends."""
    lathe, one, other = tupled((lathe, one, other))
    refuse_worn(lathe)
    left = plain_grooves([cut_groove(lathe, cut) for cut in one])
    return left == plain_grooves([cut_groove(lathe, cut) for cut in other])
