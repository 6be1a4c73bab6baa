"""Crossings of LINES, meetings of the GROOVES of a BAR."""

from screwshop.basics import ONE, ZERO, add, all_within, by_first, by_value, common_bottom, divide, first_from
from screwshop.basics import fraction, greater, is_below, is_within, lesser, many_within, multiply
from screwshop.basics import refuse_too_many, round_by, scaled, size_of, subtract, times_round, tupled
from screwshop.errors import NoGroove
from screwshop.lines import angle_on, goes_through, lines_meet, steepness


def crossing_row(line, other):
    """The PLACE of one crossing, and how far the next one is from it, None of one alone; None without crossings."""
    if not lines_meet(line, other):
        return None
    for own in (line, other):
        if own[0] == "ring":
            return (own[1], None)
    drift = subtract(steepness(line), steepness(other))
    place = divide(subtract(angle_on(other, ZERO), angle_on(line, ZERO)), drift)
    return (place, divide(ONE, size_of(drift)))


def _point_of(line, other, place):
    """The crossing at place."""
    return (place, angle_on(other if line[0] == "ring" else line, place))


def _many_in(row, low, high):
    """How many crossings of such a row are from low to high."""
    if row is None:
        return 0
    if row[1] is None:
        return 1 if is_within(row[0], low, high) else 0
    return many_within(row[0], row[1], low, high)


def _places_in(row, low, high):
    """The PLACES of the crossings of such a row from low to high; TooMany() for more than are told."""
    many = _many_in(row, low, high)
    refuse_too_many(many)
    if many == 0:
        return []
    return [row[0]] if row[1] is None else all_within(row[0], row[1], low, high)


def gap_of(line, other):
    """How far along the next crossing is ahead of one; None if there are fewer than two."""
    line, other = tupled((line, other))
    row = crossing_row(line, other)
    return None if row is None else row[1]


def how_many(line, other, start, end):
    """How many crossings have a place from start to end."""
    line, other, start, end = tupled((line, other, start, end))
    return _many_in(crossing_row(line, other), start, end)


def crossings_between(line, other, start, end):
    """The list of the crossings from start to end."""
    line, other, start, end = tupled((line, other, start, end))
    return [_point_of(line, other, place) for place in _places_in(crossing_row(line, other), start, end)]


def nth_crossing(line, other, start, count):
    """The crossing ahead of which just count of those from start on stand; None if there are not so many."""
    line, other, start = tupled((line, other, start))
    row = crossing_row(line, other)
    if row is None:
        return None
    place, gap = row
    if gap is None:
        return _point_of(line, other, place) if count == 0 and not is_below(place, start) else None
    return _point_of(line, other, add(first_from(place, gap, start), scaled(gap, count)))


def crossing_angles(line, other):
    """The list of the ANGLES of all crossings."""
    line, other = tupled((line, other))
    many = how_many_angles(line, other)
    refuse_too_many(many)
    if many == 0:
        return []
    angle = _point_of(line, other, crossing_row(line, other)[0])[1]
    return by_value([round_by(add(angle, fraction(number, many)), ONE) for number in range(many)])


def how_many_angles(line, other):
    """How many unlike ANGLES crossings have."""
    line, other = tupled((line, other))
    row = crossing_row(line, other)
    if row is None:
        return 0
    return 1 if row[1] is None else multiply(steepness(line), row[1])[1]


def three_meet(line, other, third):
    """The crossing of all three with the least place from 0 on, and how far the next one is ahead, None without."""
    lines = tupled((line, other, third))
    rings = [own for own in lines if own[0] == "ring"]
    rest = [own for own in lines if own[0] != "ring"]
    if len(rings) > 1:
        return None
    point, gap = _ring_meets(rings[0][1], rest) if rings else _three_turned(rest)
    return None if point is None else (point, gap)


def _ring_meets(place, rest):
    angle = angle_on(rest[0], place)
    if is_below(place, ZERO) or angle_on(rest[1], place) != angle:
        return (None, None)
    return ((place, angle), None)


def _three_turned(lines):
    """The same for three of which none is a ring; (None, None) if they do not meet."""
    line, other, third = lines
    row = crossing_row(line, other)
    if row is None:
        return (None, None)
    # at each crossing of the first two the third one is behind by another step
    step = multiply(subtract(steepness(line), steepness(third)), row[1])
    times = times_round(step, subtract(angle_on(third, row[0]), angle_on(line, row[0])))
    if times is None:
        return (None, None)
    gap = scaled(row[1], step[1])
    place = round_by(add(row[0], scaled(row[1], times)), gap)
    return ((place, angle_on(line, place)), gap)


def at_place(bar, place):
    """The list of the pairs (angle, numbers) of the POINTS at place through which GROOVES that are no rings go."""
    (_, grooves), place = tupled((bar, place))
    numbers = {}
    for number, (line, start, end, _) in enumerate(grooves):
        if line[0] != "ring" and is_within(place, start, end):
            numbers.setdefault(angle_on(line, place), []).append(number)
    return by_first([(angle, tuple(numbers[angle])) for angle in numbers])


def grooves_at(bar, place, angle):
    """The set of the numbers of the GROOVES through this POINT."""
    (_, grooves), place, angle = tupled((bar, place, angle))
    return numbers_at(grooves, (place, angle))


def numbers_at(grooves, point):
    return tuple([number for number, (line, start, end, _) in enumerate(grooves)
                  if is_within(point[0], start, end) and goes_through(line, point)])


def meeting_points(grooves):
    """The list, in order, of the POINTS in which GROOVES of unlike LINES meet; TooMany() for more than are told."""
    points = {}
    for number, one in enumerate(grooves):
        for other in grooves[:number]:
            row, low, high = _row_shared(one, other)
            for place in _places_in(row, low, high):
                points[_point_of(one[0], other[0], place)] = True
    refuse_too_many(len(points))
    across, around = common_bottom([place for place, _ in points]), common_bottom([angle for _, angle in points])
    return sorted(points, key=lambda point: (scaled(point[0], across), scaled(point[1], around)))


def _row_shared(one, other):
    """The row of the crossings of two GROOVES, None of one LINE, and the PLACES from which to which both go."""
    row = None if one[0] == other[0] else crossing_row(one[0], other[0])
    return row, greater(one[1], other[1]), lesser(one[2], other[2])


def _do_meet(one, other):
    row, low, high = _row_shared(one, other)
    return _many_in(row, low, high) > 0


def meetings_on(bar, number):
    """The list of the pairs (point, numbers) of the meetings on this GROOVE."""
    _groove_there(bar, number)
    return [(point, numbers) for point, numbers in all_meetings(bar) if number in numbers]


def _groove_there(bar, number):
    if not 0 <= number < len(bar[1]):
        raise NoGroove(number)


def next_meeting(bar, number, place):
    """The first meeting on this GROOVE from place on; None without one."""
    _groove_there(bar, number)
    place = tupled(place)
    for point, numbers in meetings_on(bar, number):
        if not is_below(point[0], place):
            return (point, numbers)
    return None


def all_meetings(bar):
    """The list of the pairs (point, numbers) of all meetings."""
    _, grooves = tupled(bar)
    return [(point, numbers_at(grooves, point)) for point in meeting_points(grooves)]


def busiest(bar):
    """The greatest number of unlike LINES at one meeting, 0 without one."""
    _, grooves = tupled(bar)
    return max([0] + [len({grooves[number][0] for number in numbers}) for _, numbers in all_meetings(bar)])


def lonely(bar):
    """The set of the numbers of the GROOVES without a meeting."""
    _, grooves = tupled(bar)
    return tuple([number for number, one in enumerate(grooves)
                  if not [other for other in grooves if _do_meet(one, other)]])
