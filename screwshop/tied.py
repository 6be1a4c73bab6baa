"""Tied NUTS: two that turn together, how far they go, what stops them."""

from screwshop.basics import ONE, ZERO, add, all_within, by_first, by_value, divide, greater, is_below, is_fraction
from screwshop.basics import is_number, is_tuple_of, lesser, many_within, multiply, negate, refuse_too_many
from screwshop.basics import round_by, size_of, subtract, tupled
from screwshop.errors import NoPaper, Unfit
from screwshop.nuts import is_on, stays_of, tooth_ways


def is_tie(thing):
    """Whether thing is a TIE."""
    if thing == ("stiff",):
        return True
    if not is_tuple_of(thing, 2) or thing[0] not in ("slide", "gear"):
        return False
    return is_fraction(thing[1]) and thing[1] != ZERO


def leads_fit(nut, other, tie):
    """Whether, tied so, other stays on its LINES while nut does."""
    nut, other, tie = tupled((nut, other, tie))
    along, turned = _rates(nut, other, tie)[1]
    return along == multiply(other[0], turned)


def _rates(nut, other, tie):
    """For nut, then other, how much shift and turn are more for each turn of nut."""
    own = (nut[0], ONE)
    if tie[0] == "stiff":
        return (own, own)
    if tie[0] == "slide":
        return (own, (nut[0], tie[1]))
    return (own, (multiply(other[0], tie[1]), tie[1]))


def both_fine(bar, nut, far, other, stand):
    """Whether stand holds."""
    near, beyond = tupled(stand)
    return _is_fine(bar, nut, near) and _is_fine(far, other, beyond)


def _is_fine(bar, nut, at):
    return _is_off(bar, at[0]) or is_on(bar, nut, (at[0], round_by(at[1], ONE)))


def _is_off(bar, shift):
    return is_below(shift, ZERO) or is_below(tupled(bar[0]), shift)


def turned_stand(nut, other, tie, stand, amount):
    """stand turned by amount."""
    nut, other, tie, stand, amount = tupled((nut, other, tie, stand, amount))
    return tuple([(add(at[0], multiply(rate[0], amount)), add(at[1], multiply(rate[1], amount)))
                  for at, rate in zip(stand, _rates(nut, other, tie))])


def goes_by(bar, nut, far, other, tie, stand, amount):
    """Whether stand goes by amount."""
    amount = tupled(amount)
    limit = tied_far(bar, nut, far, other, tie, stand, is_below(ZERO, amount))
    if amount == ZERO or limit is None or is_below(size_of(amount), limit):
        return True
    return size_of(amount) == limit and both_fine(bar, nut, far, other, turned_stand(nut, other, tie, stand, amount))


def tied_far(bar, nut, far, other, tie, stand, onward):
    """The least size such that stand goes by no amount of a greater size so; None if it goes by all."""
    limits = [limit for limit, _ in _both_alone(bar, nut, far, other, tie, stand, onward) if limit is not None]
    return by_value(limits)[0] if limits else None


def _both_alone(bar, nut, far, other, tie, stand, onward):
    """For nut, then other, how far it goes alone, and the numbers of the teeth that stop it there."""
    bar, nut, far, other, tie, stand = tupled((bar, nut, far, other, tie, stand))
    if not both_fine(bar, nut, far, other, stand):
        raise Unfit()
    own, others = _rates(nut, other, tie)
    return (_alone(bar, nut, stand[0], own, onward), _alone(far, other, stand[1], others, onward))


def _alone(bar, nut, at, rate, onward):
    """How far a NUT at a fine place goes, None without end, and the teeth that stop it there."""
    (shift, turn), (along, turned) = at, rate
    if not onward:
        along, turned = negate(along), negate(turned)
    up = is_below(ZERO, along)
    first, last = (ZERO, bar[0]) if up else (bar[0], ZERO)
    gone = ZERO
    if _is_off(bar, shift):
        gone = divide(subtract(first, shift), along)
        if is_below(gone, ZERO):
            return (None, ())
        shift, turn = first, add(turn, multiply(turned, gone))
    ways = tooth_ways(bar, nut, (shift, round_by(turn, ONE)))
    if along != multiply(nut[0], turned):
        # it crosses LINES of its lead: it is on one of them at a PLACE, but nowhere near it
        return (None, ()) if shift == last and None not in ways else (gone, tuple(range(len(ways))))
    ends = [shift if way is None else way[1 if up else 0] for way in ways]
    stop = by_value(ends)[0 if up else -1]
    if stop == last:
        return (None, ())
    teeth = tuple([number for number, end in enumerate(ends) if end == stop])
    return (add(gone, divide(subtract(stop, shift), along)), teeth)


def stopped_by(bar, nut, far, other, tie, stand, onward):
    """The set of the (which, tooth) that stop stand there; () if it goes by all."""
    limit = tied_far(bar, nut, far, other, tie, stand, onward)
    alone = _both_alone(bar, nut, far, other, tie, stand, onward)
    return tuple([(which, tooth) for which, (own, teeth) in enumerate(alone) if own == limit for tooth in teeth])


def lock_of(bar, nut, far, other, tie, stand):
    """A LOCK of stand."""
    stops = _stops_both_ways(bar, nut, far, other, tie, stand)
    if stops is None:
        raise NoPaper()
    return (stops[0][0], stops[1][0])


def _stops_both_ways(bar, nut, far, other, tie, stand):
    """What stops stand onward, and back, if it goes by 0 alone, else None."""
    ways = [tied_far(bar, nut, far, other, tie, stand, onward) for onward in (True, False)]
    if ways != [ZERO, ZERO]:
        return None
    return [stopped_by(bar, nut, far, other, tie, stand, onward) for onward in (True, False)]


def is_lock(bar, nut, far, other, tie, stand, thing):
    """Whether thing is a LOCK of stand."""
    stops = _stops_both_ways(bar, nut, far, other, tie, stand)
    if stops is None or not is_tuple_of(thing, 2) or not _is_stop(thing[0]) or not _is_stop(thing[1]):
        return False
    return thing[0] in stops[0] and thing[1] in stops[1]


def _is_stop(thing):
    return is_tuple_of(thing, 2) and is_number(thing[0]) and is_number(thing[1])


def half_closings(bar, nut, turn):
    """The list of the shifts at which nut is on at turn."""
    nut, turn = tupled((nut, turn))
    rows = [(multiply(nut[0], subtract(turn, own)), start, end) for own, start, end in stays_of(bar, nut)]
    refuse_too_many(sum([many_within(shift, nut[0], start, end) for shift, start, end in rows]))
    shifts = []
    for shift, start, end in rows:
        shifts.extend(all_within(shift, nut[0], start, end))
    return by_value(shifts)


def plate_stands(bar, nut, far, other, apart):
    """The list of the (shift, turn) with which nut is on, and other with apart added."""
    nut, other, apart = tupled((nut, other, apart))
    if nut[0] == other[0]:
        raise Unfit()
    rows = [_met_by_both(nut, other, own, beside, apart)
            for own in stays_of(bar, nut) for beside in stays_of(far, other)]
    refuse_too_many(sum([many_within(shift, gap, low, high) for _, shift, gap, low, high in rows]))
    stands = []
    for turn, shift, gap, low, high in rows:
        for place in all_within(shift, gap, low, high):
            stands.append((place, round_by(add(turn, divide(place, nut[0])), ONE)))
    # sorted by turn first: what is sorted by shift then keeps this order
    return by_first([(shift, turn) for turn, shift in by_first([(turn, shift) for shift, turn in stands])])


def _met_by_both(nut, other, own, beside, apart):
    """The turn of the stay own, and of the shifts at which it meets the stay beside one, the gap, least and most."""
    (turn, start, end), (far_turn, begin, stop) = own, beside
    along, around = apart
    drift = subtract(divide(ONE, nut[0]), divide(ONE, other[0]))
    wanted = subtract(add(far_turn, divide(along, other[0])), add(turn, around))
    low, high = greater(start, subtract(begin, along)), lesser(end, subtract(stop, along))
    return (turn, divide(wanted, drift), divide(ONE, drift), low, high)
