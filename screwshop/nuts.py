"""NUTS on a BAR: where they are on, how far they go, what stops them."""

from screwshop.bars import plain_grooves
from screwshop.basics import ONE, ZERO, add, by_value, divide, greater, is_ascending, is_below, is_fraction
from screwshop.basics import is_number_from_one, is_tuple_of, is_within, lesser, multiply, round_by
from screwshop.basics import size_of, subtract, tupled
from screwshop.errors import NoPaper, NoTooth, Unfit
from screwshop.lines import lead_line
from screwshop.motions import motions_of


def is_nut(thing):
    """Whether thing is a NUT."""
    if not is_tuple_of(thing, 3) or not is_fraction(thing[0]) or thing[0] == ZERO:
        return False
    lead, phases, height = thing
    if not isinstance(phases, tuple) or not phases or not is_number_from_one(height):
        return False
    if not all([is_fraction(phase) for phase in phases]) or not is_ascending(phases):
        return False
    return all([is_within(phase, ZERO, size_of(lead)) and phase != size_of(lead) for phase in phases])


def ways_of(bar, lead, height):
    """For each LINE of this lead the stretches (start, end) of its GROOVES from height on, what touches as one."""
    ways = {}
    deep = [groove[:3] + (1,) for groove in bar[1] if groove[0][:2] == ("lead", lead) and groove[3] >= height]
    for line, start, end, _ in plain_grooves(deep):
        ways.setdefault(line, []).append((start, end))
    return ways


def tooth_ways(bar, nut, motion):
    """Tooth by tooth the stretch on which it is at motion; None if it is not on."""
    lead, phases, height = nut
    ways, drawn = ways_of(bar, lead, height), _phase_drawn(lead, motion)
    return [_way_at(ways, lead_line(lead, add(phase, drawn)), motion[0]) for phase in phases]


def _phase_drawn(lead, motion):
    """By how much the phases of a NUT at motion are more."""
    return subtract(motion[0], multiply(lead, motion[1]))


def _way_at(ways, line, place):
    for start, end in ways.get(line, []):
        if is_within(place, start, end):
            return (start, end)
    return None


def is_on(bar, nut, motion):
    """Whether nut is on bar at motion."""
    return why_off(bar, nut, motion) == ()


def why_off(bar, nut, motion):
    """The set of the numbers of the teeth that are not on."""
    bar, nut, motion = tupled((bar, nut, motion))
    return tuple([number for number, way in enumerate(tooth_ways(bar, nut, motion)) if way is None])


def ways_on(bar, nut, far):
    """The set of the turns with which nut is on at PLACE 0, with far at the length of bar."""
    bar, nut = tupled((bar, nut))
    place = bar[0] if far else ZERO
    turns = [round_by(add(turn, divide(place, nut[0])), ONE)
             for turn, start, end in stays_of(bar, nut) if is_within(place, start, end)]
    return tuple(sorted(set(turns)))


def tooth_stretch(bar, nut, motion, number):
    """The pair of the least and the greatest PLACE of the stretch of this tooth."""
    bar, nut, motion = tupled((bar, nut, motion))
    if not 0 <= number < len(nut[1]):
        raise NoTooth(number)
    way = tooth_ways(bar, nut, motion)[number]
    if way is None:
        raise Unfit()
    return way


def how_far(bar, nut, motion):
    """The pair of the least and the greatest PLACE of the stretch of nut."""
    ways = _ways_all_on(bar, nut, motion)
    return (by_value([start for start, _ in ways])[-1], by_value([end for _, end in ways])[0])


def _ways_all_on(bar, nut, motion):
    """Tooth by tooth the stretch on which it is; Unfit() if one is not on."""
    bar, nut, motion = tupled((bar, nut, motion))
    ways = tooth_ways(bar, nut, motion)
    if None in ways:
        raise Unfit()
    return ways


def stops_at(bar, nut, motion, far):
    """The last PLACE of the stretch of nut, far or not, and the numbers of the teeth whose stretch ends there."""
    ends = [way[1] if far else way[0] for way in _ways_all_on(bar, nut, motion)]
    place = how_far(bar, nut, motion)[1 if far else 0]
    return (place, tuple([number for number, end in enumerate(ends) if end == place]))


def way_between(bar, nut, one, two):
    """The turns by which nut is screwed from one to two, on all the way."""
    nut, one, two = tupled((nut, one, two))
    low, high = how_far(bar, nut, one)
    _ways_all_on(bar, nut, two)
    turns = divide(subtract(two[0], one[0]), nut[0])
    if not is_within(two[0], low, high) or round_by(add(one[1], turns), ONE) != two[1]:
        raise NoPaper()
    return turns


def stays_of(bar, nut):
    """The list of the triples (turn, start, end): at each PLACE between nut is on, screwed along from turn at 0."""
    bar, (lead, phases, height) = tupled((bar, nut))
    ways, stays = ways_of(bar, lead, height), []
    for line in ways:
        stretches = ways[line]
        for phase in phases[1:]:
            beside = lead_line(lead, add(line[2], subtract(phase, phases[0])))
            stretches = _stretches_in_both(stretches, ways.get(beside, []))
        turn = round_by(divide(subtract(phases[0], line[2]), lead), ONE)
        stays.extend([(turn, start, end) for start, end in stretches])
    return sorted(stays)


def _stretches_in_both(near, far):
    """What is in some of near and in some of far, both apart from one another."""
    both = [(greater(start, begin), lesser(end, stop)) for start, end in near for begin, stop in far]
    return [(start, end) for start, end in both if not is_below(end, start)]


def nut_at(bar, lead, height, place):
    """The NUT of this lead and height with the most teeth that is on at (place, (0, 1))."""
    bar, lead, place = tupled((bar, lead, place))
    ways = ways_of(bar, lead, height)
    lines = [line for line in ways if _way_at(ways, line, place) is not None]
    return _nut_of([subtract(line[2], place) for line in lines], lead, height)


def _nut_of(phases, lead, height):
    if not phases:
        raise NoPaper()
    return (lead, tuple(sorted([round_by(phase, lead) for phase in phases])), height)


def nut_through(bar, lead, height):
    """The NUT with the most teeth that is on at ((0, 1), (0, 1)) and goes from there to the far end."""
    bar, lead = tupled((bar, lead))
    ways = ways_of(bar, lead, height)
    return _nut_of([line[2] for line in ways if (ZERO, bar[0]) in ways[line]], lead, height)


def nut_moved(nut, motion):
    """The NUT that stands at ((0, 1), (0, 1)) on the LINES on which nut is at motion."""
    (lead, phases, height), motion = tupled((nut, motion))
    drawn = _phase_drawn(lead, motion)
    return _nut_of([add(phase, drawn) for phase in phases], lead, height)


def nut_step(nut):
    """The least FRACTION of a turn above 0 by which turned its teeth stand as before."""
    lead, phases, _ = tupled(nut)
    _, steps = motions_of([(("lead", lead, phase), 1) for phase in phases])
    return steps[0][1] if steps else ONE
