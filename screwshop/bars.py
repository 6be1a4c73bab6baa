"""BARS: GROOVES on them, the one plain way to tell them, BANDS."""

from screwshop.basics import ZERO, add, by_first, by_value, divide, fraction, greater, is_ascending, is_below
from screwshop.basics import is_fraction, is_fraction_above_zero, is_number_from_one, is_point, is_tuple_of
from screwshop.basics import is_within, lesser, negate, scaled, size_of, subtract, tupled
from screwshop.errors import NoPaper, Unfit
from screwshop.lines import angle_on, goes_through, is_line, line_moved, steepness


def is_bar(thing):
    """Whether thing is a BAR."""
    if not is_tuple_of(thing, 2) or not is_fraction_above_zero(thing[0]) or not isinstance(thing[1], tuple):
        return False
    if not all([_is_groove(groove) for groove in thing[1]]) or not is_ascending(thing[1]):
        return False
    return all([_lies_within(groove, thing[0]) for groove in thing[1]])


def _is_groove(thing):
    if not is_tuple_of(thing, 4) or not is_line(thing[0]) or not is_number_from_one(thing[3]):
        return False
    line, start, end, _ = thing
    if not is_fraction(start) or not is_fraction(end):
        return False
    return start == end == line[1] if line[0] == "ring" else is_below(start, end)


def _lies_within(groove, length):
    return not is_below(groove[1], ZERO) and not is_below(length, groove[2])


def is_plain(bar):
    """Whether bar is plain."""
    bar = tupled(bar)
    return plain_bar(bar) == bar


def plain_bar(bar):
    """The plain BAR as long as bar with the same depth at each POINT."""
    length, grooves = tupled(bar)
    return (length, plain_grooves(grooves))


def plain_grooves(grooves):
    """The GROOVES of a plain BAR that leave what these leave, in whatever order they come."""
    stretches = {}
    for line, start, end, depth in grooves:
        stretches.setdefault(line, []).append((start, end, depth))
    plain = []
    for line in stretches:
        plain.extend([(line,) + stretch for stretch in _plain_stretches(line, stretches[line])])
    return tuple(sorted(plain))


def _plain_stretches(line, stretches):
    """The triples (start, end, depth) of one LINE as a plain BAR has them."""
    if line[0] == "ring":
        return [(line[1], line[1], max([depth for _, _, depth in stretches]))]
    plain = []
    for start, end in _between_ends(stretches):
        depth = _depth_between(stretches, start, end)
        if plain and plain[-1][1:] == (start, depth):
            plain[-1] = (plain[-1][0], end, depth)
        elif depth > 0:
            plain.append((start, end, depth))
    return plain


def _between_ends(stretches):
    """The pairs of neighbours among all ends of these triples (start, end, depth)."""
    ends = by_value([start for start, _, _ in stretches] + [end for _, end, _ in stretches])
    return list(zip(ends, ends[1:]))


def _depth_between(stretches, start, end):
    """The greatest depth of those that go from start to end or farther."""
    return max([0] + [depth for low, high, depth in stretches
                      if is_within(start, low, high) and is_within(end, low, high)])


def depth_at(bar, point):
    """The depth of bar at point."""
    (length, grooves), point = tupled((bar, point))
    if not is_within(point[0], ZERO, length):
        raise Unfit()
    return max([0] + [depth for line, start, end, depth in grooves
                      if is_within(point[0], start, end) and goes_through(line, point)])


def bar_with(bar, groove):
    """The plain BAR of bar with this GROOVE, too."""
    (length, grooves), groove = tupled((bar, groove))
    if not _lies_within(groove, length):
        raise Unfit()
    return (length, plain_grooves(grooves + (groove,)))


def bar_cut(bar, start, end):
    """What is cut out of bar from start to end, as a plain BAR from 0."""
    (length, grooves), start, end = tupled((bar, start, end))
    if is_below(start, ZERO) or is_below(length, end) or not is_below(start, end):
        raise Unfit()
    kept = [_clipped(groove, start, end) for groove in grooves if _is_kept(groove, start, end)]
    back = negate(start)
    return (subtract(end, start), plain_grooves([_moved_along(groove, back) for groove in kept]))


def _is_kept(groove, start, end):
    """Whether more than an end of it lies from start to end, of a ring all of it."""
    if groove[0][0] == "ring":
        return is_within(groove[1], start, end)
    return is_below(groove[1], end) and is_below(start, groove[2])


def _clipped(groove, start, end):
    return (groove[0], greater(groove[1], start), lesser(groove[2], end), groove[3])


def _moved_along(groove, shift):
    line, start, end, depth = groove
    return (line_moved(line, (shift, ZERO)), add(start, shift), add(end, shift), depth)


def bars_joined(one, other):
    """The plain BAR of one and, behind it, other."""
    (length, grooves), (more, others) = tupled((one, other))
    behind = [_moved_along(groove, length) for groove in others]
    return (add(length, more), plain_grooves(list(grooves) + behind))


def band_of(bar):
    """The BAND of the LINES of the GROOVES of bar, each with its greatest depth."""
    depths = {}
    for line, _, _, depth in tupled(bar)[1]:
        depths[line] = max(depth, depths.get(line, 0))
    return tuple(sorted([(line, depths[line]) for line in depths]))


def rows_of(band):
    """The list of the pairs (lead, row) of band, row the pairs (phase, depth) of that lead."""
    rows = {}
    for line, depth in tupled(band):
        if line[0] == "lead":
            rows.setdefault(line[1], []).append((line[2], depth))
    return [(lead, tuple(by_first(rows[lead]))) for lead in by_value(list(rows))]


def _phases_of(band, lead):
    """The phases of this lead in band, ascending by value."""
    return by_value([line[2] for line, _ in band if line[0] == "lead" and line[1] == lead])


def starts_of(band, lead):
    """How many LINES of band have this lead."""
    band, lead = tupled((band, lead))
    return len(_phases_of(band, lead))


def pitch_of(band, lead):
    """How far each phase of this lead is from the next one, if that is the same for all, else None."""
    band, lead = tupled((band, lead))
    phases = _phases_of(band, lead)
    if not phases:
        return None
    following = phases[1:] + [add(phases[0], size_of(lead))]
    gaps = [subtract(later, phase) for phase, later in zip(phases, following)]
    return gaps[0] if gaps.count(gaps[0]) == len(gaps) else None


def alike_told(one, other):
    """Whether both are as long and have the same depth at each POINT."""
    return plain_bar(one) == plain_bar(other)


def telling_point(one, other):
    """A POINT of both with unlike depths."""
    one, other = tupled((one, other))
    if one[0] != other[0]:
        raise Unfit()
    for point in _points_apart(plain_bar(one)[1], plain_bar(other)[1]):
        if depth_at(one, point) != depth_at(other, point):
            return point
    raise NoPaper()


def _points_apart(near, far):
    """POINTS, () if both are alike, one of which at least tells these plain GROOVES apart."""
    unlike = [groove for groove in near + far if groove not in near or groove not in far]
    if not unlike:
        return []
    line = unlike[0][0]
    others = sorted({groove[0] for groove in near + far if groove[0] != line})
    stretches = [groove[1:] for groove in unlike if groove[0] == line]
    return _points_on(line, stretches, others)


def _points_on(line, stretches, others):
    """POINTS of line, in each stretch one more than there are others, each of which meets at most one there."""
    many = len(others) + 1
    if line[0] == "ring":
        return [(line[1], fraction(number, many)) for number in range(many)]
    points = []
    for start, end in _between_ends(stretches):
        gap = divide(_narrow(line, others, subtract(end, start)), (many + 1, 1))
        places = [add(start, scaled(gap, number + 1)) for number in range(many)]
        points.extend([(place, angle_on(line, place)) for place in places])
    return points


def _narrow(line, others, width):
    """A width, at most this one, below the way from any crossing of line with one of others to the next."""
    for other in others:
        steep = steepness(other)
        if steep is not None and steep != steepness(line):
            width = lesser(width, divide((1, 2), size_of(subtract(steep, steepness(line)))))
    return width


def is_telling_point(one, other, thing):
    """Whether thing is a POINT of both with unlike depths."""
    one, other = tupled((one, other))
    if one[0] != other[0]:
        raise Unfit()
    if not is_point(thing) or not is_within(thing[0], ZERO, one[0]):
        return False
    return depth_at(one, thing) != depth_at(other, thing)
