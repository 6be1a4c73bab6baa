"""Depths: BARS worn and deepened, what ways between LANDS have to cross."""

from screwshop.bars import depth_at, plain_bar, plain_grooves
from screwshop.basics import groups_of, is_point, tupled
from screwshop.crossings import meeting_points, numbers_at
from screwshop.errors import NoGroove, Unfit
from screwshop.lands import Sheet, point_there


def bar_at(bar, depth):
    """The plain BAR with its GROOVES of this depth or more alone."""
    length, grooves = plain_bar(bar)
    return (length, plain_grooves([groove for groove in grooves if groove[3] >= depth]))


def worn_bar(bar, by):
    """The plain BAR WORN by so much."""
    length, grooves = plain_bar(bar)
    return (length, plain_grooves([groove[:3] + (groove[3] - by,) for groove in grooves if groove[3] > by]))


def deepened(bar, number, by):
    """The plain BAR, this GROOVE being by deeper."""
    length, grooves = plain_bar(bar)
    if not 0 <= number < len(grooves):
        raise NoGroove(number)
    deeper = grooves[number][:3] + (grooves[number][3] + by,)
    return (length, plain_grooves(grooves[:number] + (deeper,) + grooves[number + 1:]))


def levels_of(bar):
    """The set of the depths of its POINTS, but 0."""
    return tuple(sorted({groove[3] for groove in plain_bar(bar)[1]}))


def _wears_of(grooves):
    """The list of the wears from 0 to the greatest depth."""
    return list(range(max([0] + [groove[3] for groove in grooves]) + 1))


def land_rows(bar):
    """The list of the pairs (wear, how many LANDS)."""
    sheet = Sheet(bar)
    return [(wear, len(set(_lands_joined(sheet, wear)))) for wear in _wears_of(sheet.grooves)]


def _lands_joined(sheet, wear):
    """LAND by LAND the least one to which a way leads that crosses at most wear."""
    # a way across a POINT of several GROOVES can go round it across their walls, which are no deeper
    walls = [(one, other) for number, one, other in sheet.walls() if sheet.grooves[number][3] <= wear]
    return groups_of(len(sheet.marks), walls)


def needless_grooves(bar):
    """The set of the numbers of the GROOVES of bar without each of which each POINT has the same depth."""
    _, grooves = tupled(bar)
    plain = plain_grooves(grooves)
    return tuple([number for number in range(len(grooves))
                  if plain_grooves(grooves[:number] + grooves[number + 1:]) == plain])


def crossing_depths(bar):
    """The list of the pairs of a POINT in which GROOVES of unlike LINES meet and their depths there."""
    sheet = Sheet(bar)
    rows = [(point, sorted({sheet.grooves[number][3] for number in numbers_at(sheet.grooves, point)}))
            for point in meeting_points(sheet.grooves)]
    return sorted([(point, tuple(depths)) for point, depths in rows])


def _point_bare(bar, point):
    """point, made of tuples; Unfit() if it is beyond the ends or has depth."""
    if depth_at(bar, point) > 0:
        raise Unfit()
    return point_there(bar, point)


def _sheet_with(bar, near, far):
    """The Sheet of bar and the LANDS of both POINTS."""
    near, far = _point_bare(bar, near), _point_bare(bar, far)
    sheet = Sheet(bar)
    return sheet, sheet.land_at(near), sheet.land_at(far)


def least_crossed(bar, near, far):
    """The least depth that a way between both POINTS has to cross."""
    sheet, start, end = _sheet_with(bar, near, far)
    return _least_between(sheet, start, end)


def _least_between(sheet, start, end):
    for wear in _wears_of(sheet.grooves):
        joined = _lands_joined(sheet, wear)
        if joined[start] == joined[end]:
            return wear
    return None


def crossing_way(bar, near, far):
    """A CROSSING WAY at most as deep as it has to be."""
    sheet, start, end = _sheet_with(bar, near, far)
    steps = _steps_across(sheet, _least_between(sheet, start, end))
    ways, reached = {start: (start,)}, [start]
    while end not in ways:
        land = reached.pop(0)
        for other in steps[land]:
            if other not in ways:
                ways[other] = ways[land] + (other,)
                reached.append(other)
    return tuple([sheet.marks[land] for land in ways[end]])


def _steps_across(sheet, depth):
    """LAND by LAND the other ones beyond a wall of at most this depth."""
    steps = [[] for _ in sheet.marks]
    for number, one, other in sheet.walls():
        if one != other and sheet.grooves[number][3] <= depth:
            steps[one].append(other)
            steps[other].append(one)
    return steps


def is_crossing_way(bar, near, far, depth, thing):
    """Whether thing is a CROSSING WAY at most depth deep."""
    sheet, start, end = _sheet_with(bar, near, far)
    if not isinstance(thing, tuple) or not thing:
        return False
    if not all([is_point(mark) and mark in sheet.marks for mark in thing]):
        return False
    lands, steps = [sheet.marks.index(mark) for mark in thing], _steps_across(sheet, depth)
    if lands[0] != start or lands[-1] != end:
        return False
    return all([other in steps[land] for land, other in zip(lands, lands[1:])])


def join_rows(bar):
    """Wear by wear the list of the tuples of the marks of the LANDS that lie in one LAND then."""
    sheet = Sheet(bar)
    return [_marks_joined(sheet, wear) for wear in _wears_of(sheet.grooves)]


def _marks_joined(sheet, wear):
    together = {}
    for land, first in enumerate(_lands_joined(sheet, wear)):
        together.setdefault(first, []).append(land)
    return sorted([tuple(sheet.marks_of(together[first])) for first in together])


def barring_depth(bar):
    """The least depth that a way from one end to the other has to cross."""
    sheet = Sheet(bar)
    rings = [sheet.grooves[sheet.rings[end]][3] for end in ((0, 1), sheet.length) if end in sheet.rings]
    for wear in _wears_of(sheet.grooves):
        joined = _lands_joined(sheet, wear)
        near, far = [[joined[land] for land in lands] for lands in sheet.at_ends]
        if max([0] + rings) <= wear and [land for land in near if land in far]:
            return wear
    return None
