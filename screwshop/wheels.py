"""Wheels: TRAINS, the leads that they cut, TRAINS of a box of wheels."""

from screwshop.basics import ONE, divide, fraction, is_below, is_number_from_one, is_tuple_of
from screwshop.basics import multiply, negate, size_of, subtract, tupled
from screwshop.errors import NoPaper

MOST_PAIRS = 4


def is_train(thing):
    """Whether thing is a TRAIN."""
    if not is_tuple_of(thing, 2) or not isinstance(thing[0], tuple) or not isinstance(thing[1], bool):
        return False
    return all([_is_pair(pair) for pair in thing[0]])


def _is_pair(thing):
    return is_tuple_of(thing, 2) and is_number_from_one(thing[0]) and is_number_from_one(thing[1])


def ratio_of(train):
    """The ratio of this TRAIN."""
    pairs, tumble = tupled(train)
    ratio = _ratio_of_pairs(pairs)
    return negate(ratio) if tumble else ratio


def _ratio_of_pairs(pairs):
    top, bottom = 1, 1
    for driver, driven in pairs:
        top, bottom = top * driver, bottom * driven
    return fraction(top, bottom)


def lead_of(pitch, train):
    """The lead that train cuts with a screw of this pitch."""
    return multiply(tupled(pitch), ratio_of(train))


def train_for(pitch, box, lead, many):
    """The least TRAIN of box, of the fewest pairs, at most many, that cuts lead."""
    pitch, box, lead = tupled((pitch, box, lead))
    wanted = divide(lead, pitch)
    for count in range(many + 1):
        fits = [pairs for pairs in _pairings(box, count, (0, 0)) if _ratio_of_pairs(pairs) == size_of(wanted)]
        if fits:
            return (min(fits), is_below(wanted, (0, 1)))
    raise NoPaper()


def _pairings(box, count, low):
    """All tuples of count pairs of wheels of box, sorted, the first one from low on."""
    if count == 0:
        return [()]
    found = []
    for pair in _pairs_of(box):
        if pair >= low:
            found.extend([(pair,) + others for others in _pairings(_box_without(box, pair), count - 1, pair)])
    return found


def _pairs_of(box):
    places = range(len(box))
    return sorted({(box[at], box[to]) for at in places for to in places if at != to})


def _box_without(box, pair):
    wheels = list(box)
    wheels.remove(pair[0])
    wheels.remove(pair[1])
    return tuple(wheels)


def fewest_pairs(pitch, box, lead):
    """How many pairs the TRAIN of box has that cuts lead with the fewest; None if none does."""
    try:
        train = train_for(pitch, box, lead, MOST_PAIRS)
    except NoPaper:
        return None
    return len(train[0])


def nearest_lead(pitch, box, lead, many):
    """The lead nearest to lead that TRAINS of box cut, and how far it is off."""
    pitch, box, lead = tupled((pitch, box, lead))
    best, least_gap = None, None
    for cut in _leads_cut(pitch, box, many):
        gap = size_of(subtract(cut, lead))
        if best is None or is_below(gap, least_gap) or (gap == least_gap and is_below(cut, best)):
            best, least_gap = cut, gap
    return (best, least_gap)


def _leads_cut(pitch, box, many):
    """The leads that TRAINS of box of at most many pairs cut, right and left ones."""
    ratios = {ONE: True}
    for count in range(1, many + 1):
        for pairs in _pairings(box, count, (0, 0)):
            ratios[_ratio_of_pairs(pairs)] = True
    right = [multiply(pitch, ratio) for ratio in ratios]
    return right + [negate(lead) for lead in right]
