"""Worn SCREWS: where they lead to, their one plain form, what a LATHE makes of them."""

from screwshop.basics import ONE, ZERO, add, all_within, by_value, divide, fits_screw, greater, is_below
from screwshop.basics import is_fraction, lesser, many_within, multiply, refuse_too_many, round_by
from screwshop.basics import screw_place, screw_turns, size_of, stretches_of, subtract, tupled
from screwshop.errors import NoPaper, Unfit
from screwshop.lines import line_at
from screwshop.passes import closes_at, run_out
from screwshop.wheels import ratio_of


def is_screw(thing):
    """Whether thing is a SCREW."""
    return fits_screw(thing)


def place_of(screw, turns):
    """What screw leads to behind turns."""
    screw, turns = tupled((screw, turns))
    return screw_place(screw, turns)


def turns_at(screw, place):
    """The turns behind which screw leads to place."""
    screw, place = tupled((screw, place))
    return screw_turns(screw, place)


def pitch_at(screw, place):
    """The pitch of screw at place, at a bend the one behind it."""
    screw, place = tupled((screw, place))
    stretches, end = stretches_of(screw), ZERO
    for turns, pitch in stretches[:-1]:
        end = add(end, multiply(turns, pitch))
        if is_below(place, end):
            return pitch
    return stretches[-1][1]


def plain_screw(screw):
    """The plain SCREW that leads to the same behind all turns."""
    plain = []
    for turns, pitch in stretches_of(tupled(screw)):
        if plain and plain[-1][1] == pitch:
            turns = add(plain.pop()[0], turns)
        plain.append((turns, pitch))
    last = plain.pop()[1]
    return tuple(plain) + ((ONE, last),) if plain else last


def screws_alike(one, other):
    """Whether both lead to the same behind all turns."""
    return plain_screw(one) == plain_screw(other)


def parting_turn(one, other):
    """Turns behind which they do not lead to the same."""
    one, other = tupled((one, other))
    # straight between these, and alike at 0: what is alike at all of them is alike ahead of them and behind, too
    for turns in _ends_of(one) + _ends_of(other):
        if is_parting_turn(one, other, turns):
            return turns
    raise NoPaper()


def _ends_of(screw):
    """The turns at which the stretches of screw end, the last one's too."""
    ends = []
    for turns, _ in stretches_of(screw):
        ends.append(add(ends[-1], turns) if ends else turns)
    return ends


def is_parting_turn(one, other, thing):
    """Whether thing is a FRACTION behind which they do not lead to the same."""
    return is_fraction(thing) and place_of(one, thing) != place_of(other, thing)


def bends_of(screw):
    """The tuple of the bends of the plain SCREW."""
    ends = [ZERO]
    for turns, pitch in stretches_of(plain_screw(screw)):
        ends.append(add(ends[-1], multiply(turns, pitch)))
    return tuple(ends[1:-1])


def seen_from_turn(screw, turns):
    """The plain SCREW that leads to what screw leads to behind turns and more, less that behind turns alone."""
    screw, turns = tupled((screw, turns))
    left, seen = turns, []
    stretches = stretches_of(screw)
    for long, pitch in stretches[:-1]:
        if is_below(left, long):
            seen.append((subtract(long, left), pitch))
        left = greater(subtract(left, long), ZERO)
    return plain_screw(tuple(seen) + ((ONE, stretches[-1][1]),))


def screw_through(points):
    """The plain SCREW straight from (0, 0) to the first of these (turns, place), and from each to the next."""
    turns, place, stretches = ZERO, ZERO, []
    for more, end in tupled(points):
        if not is_below(turns, more) or not is_below(place, end):
            raise Unfit()
        long = subtract(more, turns)
        stretches.append((long, divide(subtract(end, place), long)))
        turns, place = more, end
    return plain_screw(tuple(stretches))


def closings(lathe, turned, low, high):
    """The tuple of the PLACES from low to high at which the nut closes."""
    (screw, train, _), turned, low, high = tupled((lathe, turned, low, high))
    made, first, last = multiply(ratio_of(train), turned), screw_turns(screw, low), screw_turns(screw, high)
    refuse_too_many(many_within(made, ONE, first, last))
    return tuple([screw_place(screw, turns) for turns in all_within(made, ONE, first, last)])


def worn_pieces(lathe, turned, place, end):
    """The PIECES that a pass begun there leaves to end, cut at bends alone."""
    lathe, turned, place, end = tupled((lathe, turned, place, end))
    closes_at(lathe, turned, place)
    low, high = lesser(place, end), greater(place, end)
    cuts = [low] + [bend for bend in bends_of(lathe[0]) if is_below(low, bend) and is_below(bend, high)] + [high]
    pieces = []
    for start, stop in zip(cuts, cuts[1:]):
        angle = round_by(run_out(lathe, turned, place, start), ONE)
        lead = multiply(pitch_at(lathe[0], start), ratio_of(lathe[1]))
        pieces.append((line_at(lead, (start, angle)), start, stop))
    return tuple(pieces)


def true_stretches(screw, bed):
    """The triples (start, end, pitch) of the stretches of bed of one pitch."""
    bends = [bend for bend in bends_of(screw) if is_below(bend, bed)]
    return [(start, end, pitch_at(screw, start)) for start, end in zip([ZERO] + bends, bends + [bed])]


def true_places(screw, pitch, bed):
    """The tuple of the stretches of bed in which the pitch is this one."""
    pitch, bed = tupled((pitch, bed))
    return tuple([(start, end) for start, end, own in true_stretches(screw, bed) if own == pitch])


def longest_true(screw, bed):
    """The longest stretch of bed of one pitch, of several the first."""
    stretches = true_stretches(screw, tupled(bed))
    longest = by_value([subtract(end, start) for start, end, _ in stretches])[-1]
    return [(start, end) for start, end, _ in stretches if subtract(end, start) == longest][0]


def error_at(screw, pitch, place):
    """place less pitch times the turns behind which screw leads to it."""
    pitch, place = tupled((pitch, place))
    return subtract(place, multiply(pitch, turns_at(screw, place)))


def greatest_error(screw, pitch, bed):
    """The greatest size of the error in bed."""
    ends = [end for _, end, _ in true_stretches(screw, tupled(bed))]
    return by_value([ZERO] + [size_of(error_at(screw, pitch, end)) for end in ends])[-1]


def mean_pitch(screw, start, end):
    """What screw goes on from start to end, by turn."""
    start, end = tupled((start, end))
    return divide(subtract(end, start), subtract(turns_at(screw, end), turns_at(screw, start)))
