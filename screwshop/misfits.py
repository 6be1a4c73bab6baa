"""PIECES: bent grooves, whether they are alike, nuts that fit into them."""

from screwshop.basics import HALF, ONE, ZERO, add, by_value, divide, greater, is_below, is_fraction
from screwshop.basics import is_tuple_of, is_within, lesser, round_by, size_of, subtract, tupled
from screwshop.errors import NoPaper, Unfit
from screwshop.lines import angle_on, is_line, line_moved
from screwshop.worn import true_stretches


def are_pieces(thing):
    """Whether thing is PIECES."""
    if not isinstance(thing, tuple) or not thing or not all([_is_piece(piece) for piece in thing]):
        return False
    rights = [is_below(ZERO, line[1]) for line, _, _ in thing]
    if rights.count(rights[0]) != len(rights):
        return False
    return all([_goes_on_in(near, far) for near, far in zip(thing, thing[1:])])


def _is_piece(thing):
    if not is_tuple_of(thing, 3) or not is_line(thing[0]) or thing[0][0] != "lead":
        return False
    return is_fraction(thing[1]) and is_fraction(thing[2]) and is_below(thing[1], thing[2])


def _goes_on_in(near, far):
    """Whether the triple far begins at the POINT where near ends."""
    return near[2] == far[1] and angle_on(near[0], near[2]) == angle_on(far[0], far[1])


def plain_pieces(pieces):
    """The plain PIECES with the same POINTS."""
    plain = []
    for line, start, end in tupled(pieces):
        # neighbours of one lead have a POINT in common, so they are of one LINE
        if plain and plain[-1][0] == line:
            start = plain.pop()[1]
        plain.append((line, start, end))
    return tuple(plain)


def pieces_moved(pieces, motion):
    """The PIECES of all POINTS moved, triple by triple."""
    pieces, motion = tupled((pieces, motion))
    return tuple([(line_moved(line, motion), add(start, motion[0]), add(end, motion[0]))
                  for line, start, end in pieces])


def angle_there(pieces, place):
    """The ANGLE of the POINT at place; None if there is none."""
    pieces, place = tupled((pieces, place))
    for line, start, end in pieces:
        if is_within(place, start, end):
            return angle_on(line, place)
    return None


def shift_between(one, other):
    """The MOTION that leads the POINTS of one onto those of other."""
    one, other = plain_pieces(one), plain_pieces(other)
    start, begin = one[0][1], other[0][1]
    turn = round_by(subtract(angle_there(other, begin), angle_there(one, start)), ONE)
    motion = (subtract(begin, start), turn)
    if pieces_moved(one, motion) != other:
        raise NoPaper()
    return motion


def parting_at(one, other):
    """A PARTING of one and other."""
    one, other = plain_pieces(one), plain_pieces(other)
    if _long(one) != _long(other):
        return greater(_long(one), _long(other))
    cuts = by_value([subtract(end, pieces[0][1]) for pieces in (one, other) for piece in pieces for end in piece[1:]])
    for low, high in zip(cuts, cuts[1:]):
        drift = subtract(divide(ONE, _lead_behind(one, low)), divide(ONE, _lead_behind(other, low)))
        if drift != ZERO:
            # so far they go together; half a turn apart they have not come together again
            return add(low, lesser(subtract(high, low), divide(HALF, size_of(drift))))
    raise NoPaper()


def _long(pieces):
    return subtract(pieces[-1][2], pieces[0][1])


def _lead_behind(pieces, gone):
    """The lead so far behind the start, at a bend the one behind it."""
    place = add(pieces[0][1], gone)
    return [line[1] for line, start, _ in pieces if not is_below(place, start)][-1]


def is_parting_at(one, other, thing):
    """Whether thing is a PARTING of one and other."""
    if not is_fraction(thing) or is_below(thing, ZERO):
        return False
    return _turn_behind(one, thing) != _turn_behind(other, thing)


def _turn_behind(pieces, gone):
    """The ANGLE so far behind the start less that at the start; None without a POINT there."""
    start = tupled(pieces[0][1])
    angle = angle_there(pieces, add(start, gone))
    return None if angle is None else round_by(subtract(angle, angle_there(pieces, start)), ONE)


# What fits is told by rows, the triples (lead, start, end) of plain PIECES: where leads are alike all along, one
# ANGLE does for all POINTS.

def _rows_of(pieces):
    return [(line[1], start, end) for line, start, end in plain_pieces(pieces)]


def _rows_between(rows, low, high):
    """What of these rows lies from low to high."""
    return [(lead, greater(start, low), lesser(end, high)) for lead, start, end in rows
            if is_below(start, high) and is_below(low, end)]


def _is_among(rows, nut, shift):
    """Whether the rows of nut, moved by shift, are part of these."""
    moved = [(lead, add(start, shift), add(end, shift)) for lead, start, end in nut]
    return _rows_between(rows, moved[0][1], moved[-1][2]) == moved


def _shifts_among(rows, nut):
    """The list of the stretches (low, high) of shifts by which the rows of nut are part of these."""
    lead, start, end = nut[0]
    if len(nut) == 1:
        stays = [(subtract(low, start), subtract(high, end)) for own, low, high in rows if own == lead]
        return [(low, high) for low, high in stays if not is_below(high, low)]
    # the first bend of nut comes to a bend
    shifts = [subtract(bend, end) for _, _, bend in rows[:-1]]
    return [(shift, shift) for shift in shifts if _is_among(rows, nut, shift)]


def fits_by(pieces, nut, shift):
    """The ANGLE turn such that nut fits by (shift, turn); None if there is none."""
    shift, start = tupled(shift), tupled(nut[0][1])
    if not _is_among(_rows_of(pieces), _rows_of(nut), shift):
        return None
    return round_by(subtract(angle_there(pieces, add(start, shift)), angle_there(nut, start)), ONE)


def nut_shifts(pieces, nut):
    """The tuple of the stretches (low, high) of all shifts by which nut fits by some ANGLE."""
    return tuple(_shifts_among(_rows_of(pieces), _rows_of(nut)))


def nut_way(pieces, nut, shift):
    """The stretch of nut_shifts with shift in it."""
    shift = tupled(shift)
    for low, high in nut_shifts(pieces, nut):
        if is_within(shift, low, high):
            return (low, high)
    raise Unfit()


def common_stretch(one, other):
    """The triple (long, start, begin) of the longest part of one that some MOTION leads onto a part of other."""
    found = _common_parts(_rows_of(one), _rows_of(other))
    if not found:
        return None
    longest = by_value([long for long, _, _ in found])[-1]
    starts = [(start, begin) for long, start, begin in found if long == longest]
    first = by_value([start for start, _ in starts])[0]
    return (longest, first, by_value([begin for start, begin in starts if start == first])[0])


def _common_parts(rows, others):
    """Triples (long, start, begin) of parts that are alike, the longest ones among them."""
    found = []
    for at, (lead, start, end) in enumerate(rows):
        for to, (own, begin, stop) in enumerate(others):
            if lead == own:
                found.append((_alike_ahead(rows[at:at + 1], others[to:to + 1]), start, begin))
                # the ends of both put together: it may go on behind them, and farther back
                back = _alike_ahead(rows[at::-1], others[to::-1])
                long = add(back, _alike_ahead(rows[at + 1:], others[to + 1:]))
                found.append((long, subtract(end, back), subtract(stop, back)))
    return found


def _alike_ahead(rows, others):
    """How far both are alike, row by row, put together where the first ones begin."""
    long = ZERO
    for (lead, start, end), (own, begin, stop) in zip(rows, others):
        if lead != own:
            return long
        near, far = subtract(end, start), subtract(stop, begin)
        long = add(long, lesser(near, far))
        if near != far:
            return long
    return long


def wrong_stretches(pieces, lead):
    """The tuple of the stretches (start, end) in which the lead is another one."""
    lead, found = tupled(lead), []
    for own, start, end in _rows_of(pieces):
        if own != lead:
            if found and found[-1][1] == start:
                start = found.pop()[0]
            found.append((start, end))
    return tuple(found)


def places_alike(screw, length, bed, place):
    """The tuple of the stretches (low, high) of PLACES from which on a bar of length is bent as one from place on."""
    length, bed, place = tupled((length, bed, place))
    rows = [(pitch, start, end) for start, end, pitch in true_stretches(screw, bed)]
    bar = _rows_between(rows, place, add(place, length))
    return tuple([(add(place, low), add(place, high)) for low, high in _shifts_among(rows, bar)])
