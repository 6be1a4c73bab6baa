"""LANDS: what GROOVES leave standing of a BAR, in pieces."""

from screwshop.bars import plain_bar
from screwshop.basics import HALF, ONE, ZERO, add, by_first, by_value, groups_of, is_below, is_point, is_within
from screwshop.basics import middle_of, multiply, refuse_too_many, round_by, simplest_between, subtract, tupled
from screwshop.crossings import meeting_points, numbers_at
from screwshop.errors import NoGroove, Unfit
from screwshop.lines import angle_on, steepness


class Sheet:
    """A plain BAR, cut at each PLACE of a CORNER, a ring, an end into slabs, and a slab by GROOVES into cells.

    An arc is a pair of ANGLES, counted on beyond 1: what is between them, without both; None is all round the bar.
    A cell is a tuple of its arcs at both PLACES of its slab and the numbers of the GROOVES under it and over it; it
    is told by a pair of numbers, of the slab and its own. Each PLACE of cut is a level, where GROOVES leave arcs.
    LANDS are told by numbers, too.
    """

    def __init__(self, bar):
        self.length, self.grooves = plain_bar(bar)
        self.corners = _corners_on(self.grooves)
        self.rings = {groove[1]: number for number, groove in enumerate(self.grooves) if groove[0][0] == "ring"}
        self.places = by_value([ZERO, self.length] + list(self.rings) + [place for place, _ in self.corners])
        self.slabs = [_cells_between(self.grooves, start, end) for start, end in zip(self.places, self.places[1:])]
        self.arcs = [_arcs_at(self.grooves, place) for place in self.places]
        self.cells_of, self.homes, self.rounds = [], {}, []
        self.fill_lands(self.links())
        self.at_ends = [[self.land_of_arc(level, arc) for arc in self.arcs[level]] for level in (0, len(self.slabs))]
        self.marks = [self.mark_of(land) for land in range(len(self.cells_of))]

    def sides(self, level, arc):
        """The cells below and above an arc, each with how many turns more its ANGLES are; None beyond an end."""
        angle = ZERO if arc is None else middle_of(arc[0], arc[1])
        below = above = None
        if level > 0:
            below = _cell_with(self.slabs[level - 1], level - 1, 1, angle)
        if level < len(self.slabs):
            above = _cell_with(self.slabs[level], level, 0, angle)
        return below, above

    def links(self):
        """For each cell those in which it goes on, each with how many turns more the ANGLES of it are than there."""
        links = {(slab, number): [] for slab, cells in enumerate(self.slabs) for number in range(len(cells))}
        for level in range(1, len(self.slabs)):
            if self.places[level] not in self.rings:
                for arc in self.arcs[level]:
                    (below, own), (above, others) = self.sides(level, arc)
                    links[below].append((above, own - others))
                    links[above].append((below, others - own))
        return links

    def fill_lands(self, links):
        """Put together what goes on: the cells of each LAND, whether it goes round, the LAND of each cell."""
        for first in links:
            if first not in self.homes:
                cells, is_round = _reached_from(first, links)
                for own in cells:
                    self.homes[own] = len(self.cells_of)
                self.cells_of.append(cells)
                self.rounds.append(is_round or None in [self.cell(own)[0] for own in cells])

    def cell(self, own):
        return self.slabs[own[0]][own[1]]

    def land_of_arc(self, level, arc):
        below, above = self.sides(level, arc)
        return self.homes[below[0] if above is None else above[0]]

    def pieces_at(self, place):
        """The pairs (LAND, arc) of what has no depth at place."""
        if place in self.rings:
            return []
        if place in self.places:
            level = self.places.index(place)
            return [(self.land_of_arc(level, arc), arc) for arc in self.arcs[level]]
        slab = len([start for start in self.places if is_below(start, place)]) - 1
        return [(self.homes[(slab, number)], _cut_through(self.grooves, cell, place))
                for number, cell in enumerate(self.slabs[slab])]

    def land_at(self, point):
        """The LAND in which point lies; None if it has depth."""
        for land, arc in self.pieces_at(point[0]):
            if arc is None or _lies_inside(point[1], arc):
                return land
        return None

    def lands_from_end_to_end(self):
        """The LANDS that have POINTS at both ends."""
        if ZERO in self.rings or self.length in self.rings:
            return []
        return [land for land in range(len(self.cells_of)) if land in self.at_ends[0] and land in self.at_ends[1]]

    def mark_of(self, land):
        low, high = self.span_of(land)
        places = [simplest_between(low, high)]
        if land in self.at_ends[0] and low not in self.rings:
            places.append(low)
        if land in self.at_ends[1] and high not in self.rings:
            places.append(high)
        place = _simplest_of(places)
        return (place, _simplest_of([_simplest_angle(arc) for own, arc in self.pieces_at(place) if own == land]))

    def span_of(self, land):
        """The least and the greatest PLACE to which a LAND comes."""
        slabs = [slab for slab, _ in self.cells_of[land]]
        return (self.places[min(slabs)], self.places[max(slabs) + 1])

    def land_marked(self, mark):
        """The LAND of this mark; Unfit() if it is none."""
        mark = tupled(mark)
        if mark not in self.marks:
            raise Unfit()
        return self.marks.index(mark)

    def marks_of(self, lands):
        """The list, in order, of the marks of these LANDS."""
        return sorted([self.marks[land] for land in lands])

    def walls(self):
        """The list of all triples of the number of a GROOVE and the LANDS on both sides of a wall of it."""
        found = {}
        for slab, cells in enumerate(self.slabs):
            for number, cell in enumerate(cells):
                if cell[2] is not None:
                    under = self.homes[(slab, (number or len(cells)) - 1)]
                    found[(cell[2], under, self.homes[(slab, number)])] = True
        for level in range(1, len(self.slabs)):
            if self.places[level] in self.rings:
                ring = self.rings[self.places[level]]
                for arc in self.arcs[level]:
                    below, above = self.sides(level, arc)
                    found[(ring, self.homes[below[0]], self.homes[above[0]])] = True
        return list(found)

    def area_of_cell(self, own):
        start, end, _, _ = self.cell(own)
        wide = ONE if start is None else multiply(HALF, add(_width_of(start), _width_of(end)))
        return multiply(wide, subtract(self.places[own[0] + 1], self.places[own[0]]))

    def has_at_edge(self, own, corner):
        """Whether corner is at the edge of this cell."""
        for side, arc in enumerate(self.cell(own)[:2]):
            if corner[0] == self.places[own[0] + side]:
                return arc is None or not is_below(_width_of(arc), _gone_from(arc, corner[1]))
        return False


def _corners_on(grooves):
    """The list of the CORNERS of these plain GROOVES; TooMany() for more than are told."""
    corners = {point: True for point in meeting_points(grooves)}
    for line, start, end, _ in grooves:
        if line[0] != "ring":
            corners[(start, angle_on(line, start))] = True
            corners[(end, angle_on(line, end))] = True
    refuse_too_many(len(corners))
    return list(corners)


def _cells_between(grooves, start, end):
    """The cells of the slab from start to end, as they stand round the bar."""
    half, middle = multiply(HALF, subtract(end, start)), middle_of(start, end)
    edges = []
    for number, (line, low, high, _) in enumerate(grooves):
        if line[0] != "ring" and is_within(middle, low, high):
            angle, more = angle_on(line, middle), multiply(steepness(line), half)
            edges.append((angle, subtract(angle, more), add(angle, more), number))
    if not edges:
        return [(None, None, None, None)]
    edges = by_first(edges)
    _, low, high, number = edges[0]
    following = edges[1:] + [(ONE, add(low, ONE), add(high, ONE), number)]
    return [((under[1], over[1]), (under[2], over[2]), under[3], over[3]) for under, over in zip(edges, following)]


def _arcs_at(grooves, place):
    """The arcs that GROOVES but rings leave at place, as they stand round the bar."""
    angles = by_value([angle_on(line, place) for line, start, end, _ in grooves
                       if line[0] != "ring" and is_within(place, start, end)])
    return list(zip(angles, angles[1:] + [add(angles[0], ONE)])) if angles else [None]


def _cell_with(cells, slab, side, angle):
    """The cell of this slab with angle inside its arc at this side, and how many turns more that is told there."""
    for number, cell in enumerate(cells):
        arc = cell[side]
        if arc is None:
            return ((slab, number), 0)
        gone = _gone_from(arc, angle)
        if is_below(gone, _width_of(arc)):
            return ((slab, number), subtract(add(arc[0], gone), angle)[0])
    return None


def _gone_from(arc, angle):
    """How far angle is from the beginning of arc, round by 1."""
    return round_by(subtract(angle, arc[0]), ONE)


def _width_of(arc):
    return subtract(arc[1], arc[0])


def _lies_inside(angle, arc):
    gone = _gone_from(arc, angle)
    return gone != ZERO and is_below(gone, _width_of(arc))


def _reached_from(first, links):
    """The cells that hang together with first, and whether a way through them leads round the bar."""
    turns, left, is_round = {first: 0}, [first], False
    while left:
        cell = left.pop()
        for other, more in links[cell]:
            if other not in turns:
                turns[other] = turns[cell] + more
                left.append(other)
            elif turns[other] != turns[cell] + more:
                is_round = True
    return list(turns), is_round


def _cut_through(grooves, cell, place):
    """The arc of a cell at a PLACE inside its slab."""
    if cell[2] is None:
        return None
    low, high = angle_on(grooves[cell[2]][0], place), angle_on(grooves[cell[3]][0], place)
    width = round_by(subtract(high, low), ONE)
    return (low, add(low, ONE if width == ZERO else width))


def _simplest_of(values):
    return min(values, key=lambda value: (value[1], value[0]))


def _simplest_angle(arc):
    """The simplest ANGLE inside an arc."""
    if arc is None:
        return ZERO
    low = round_by(arc[0], ONE)
    high = add(low, _width_of(arc))
    return ZERO if is_below(ONE, high) else simplest_between(low, high)


def lands_of(bar):
    """The list of all marks."""
    return sorted(Sheet(bar).marks)


def how_many_lands(bar):
    """How many LANDS there are."""
    return len(Sheet(bar).marks)


def is_mark(bar, thing):
    """Whether thing is the mark of a LAND."""
    marks = Sheet(bar).marks
    return is_point(thing) and thing in marks


def point_there(bar, point):
    """point, made of tuples; Unfit() if it is beyond the ends."""
    length, point = tupled((bar[0], point))
    if not is_within(point[0], ZERO, length):
        raise Unfit()
    return point


def land_at(bar, point):
    """The mark of the LAND in which point lies; None if it has depth."""
    point = point_there(bar, point)
    sheet = Sheet(bar)
    land = sheet.land_at(point)
    return None if land is None else sheet.marks[land]


def same_land(bar, near, far):
    """Whether both POINTS lie in one LAND."""
    near, far = point_there(bar, near), point_there(bar, far)
    sheet = Sheet(bar)
    land = sheet.land_at(near)
    return land is not None and land == sheet.land_at(far)


def area_of(bar, mark):
    """The area of the LAND of mark, place by turns."""
    sheet = Sheet(bar)
    area = ZERO
    for own in sheet.cells_of[sheet.land_marked(mark)]:
        area = add(area, sheet.area_of_cell(own))
    return area


def span_of(bar, mark):
    """The pair of the least and the greatest place to which the LAND of mark comes."""
    sheet = Sheet(bar)
    return sheet.span_of(sheet.land_marked(mark))


def goes_round(bar, mark):
    """Whether a way in the LAND of mark leads once round the bar and back."""
    sheet = Sheet(bar)
    return sheet.rounds[sheet.land_marked(mark)]


def goes_along(bar):
    """The list of the marks of the LANDS that have POINTS at both ends."""
    sheet = Sheet(bar)
    return sheet.marks_of(sheet.lands_from_end_to_end())


def neighbours_of(bar, mark):
    """The list of the marks of the other LANDS beyond a wall of that of mark."""
    sheet = Sheet(bar)
    own = sheet.land_marked(mark)
    beyond = set()
    for _, one, other in sheet.walls():
        if own in (one, other) and one != other:
            beyond.add(one if other == own else other)
    return sheet.marks_of(sorted(beyond))


def parted_by(bar, one, other):
    """The set of the numbers of the GROOVES of which a wall lies between both LANDS."""
    sheet = Sheet(bar)
    near, far = sheet.land_marked(one), sheet.land_marked(other)
    return tuple(sorted({number for number, low, high in sheet.walls() if (low, high) in ((near, far), (far, near))}))


def corners_of(bar, mark):
    """The list of the CORNERS at the edge of the LAND of mark."""
    sheet = Sheet(bar)
    cells = sheet.cells_of[sheet.land_marked(mark)]
    return sorted([corner for corner in sheet.corners if [own for own in cells if sheet.has_at_edge(own, corner)]])


def corner_book(bar):
    """How many CORNERS, stretches between them, pieces that hang together there are."""
    length, grooves = plain_bar(bar)
    corners = _corners_on(grooves)
    circles = by_value([ZERO, length] + [line[1] for line, _, _, _ in grooves if line[0] == "ring"])
    threads = [(("ring", place), place, place, 1) for place in circles]
    threads.extend([groove for groove in grooves if groove[0][0] != "ring"])
    met, pairs = [0] * len(threads), []
    for corner in corners:
        through = numbers_at(threads, corner)
        pairs.extend(list(zip(through, through[1:])))
        for number in through:
            met[number] += 1
    stretches = [max(1, many) for many in met[:len(circles)]] + [many - 1 for many in met[len(circles):]]
    return (len(corners) + met.count(0), sum(stretches), len(set(groups_of(len(threads), pairs))))


def lands_without(bar, number):
    """How many LANDS there are without this GROOVE."""
    length, grooves = plain_bar(bar)
    if not 0 <= number < len(grooves):
        raise NoGroove(number)
    _corners_on(grooves)
    return how_many_lands((length, grooves[:number] + grooves[number + 1:]))
