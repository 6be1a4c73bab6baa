"""Sheets: POINTS of a NET that have depth, what LINES they tell, LOTS and DENIALS."""

from screwshop.bars import depth_at
from screwshop.basics import MOST_TOLD, ZERO, divide, floor_of, fraction, is_ascending, is_fraction
from screwshop.basics import is_point, is_tuple_of, refuse_too_many, scaled, tupled
from screwshop.errors import NoPaper
from screwshop.lines import goes_through, is_line, line_at


def points_of(net):
    """The set of the POINTS of net."""
    return tuple(sorted(_points_along(tupled(net))))


def _points_along(net):
    """The list of the POINTS of net, PLACE by PLACE; TooMany() for more than are told."""
    length, apart, parts = net
    last = floor_of(divide(length, apart))
    refuse_too_many((last + 1) * parts)
    return [(scaled(apart, number), fraction(part, parts)) for number in range(last + 1) for part in range(parts)]


def sheet_of(bar, apart, parts):
    """The SHEET of the POINTS of this NET on bar that have depth."""
    bar, apart = tupled((bar, apart))
    net = (bar[0], apart, parts)
    return (net, tuple([point for point in points_of(net) if depth_at(bar, point) > 0]))


def bar_from_points(sheet, kinds):
    """The BAR with a GROOVE for each row of two POINTS at least, or of a ring, of a LINE of kinds."""
    (net, points), kinds = tupled((sheet, kinds))
    along, held = _points_along(net), {point: True for point in points}
    grooves, told = [], {}
    for kind in kinds:
        lines = {}
        for point in along:
            lines.setdefault(_line_of(kind, point), []).append(point)
        for line in lines:
            for row in _rows_on(line, lines[line], held):
                grooves.append((line, row[0][0], row[-1][0], 1))
                for point in row:
                    told[point] = True
    if not all([point in told for point in points]):
        raise NoPaper()
    return (net[0], tuple(sorted(grooves)))


def _line_of(kind, point):
    """The LINE of this KIND through point."""
    if kind == "ring":
        return ("ring", point[0])
    return ("flute", point[1]) if kind == "flute" else line_at(kind, point)


def _rows_on(line, along, held):
    """The rows of line that leave a GROOVE, along all POINTS of the NET on it, held those of the SHEET."""
    if line[0] == "ring":
        return [along] if all([point in held for point in along]) else []
    rows = [[]]
    for point in along:
        if point in held:
            rows[-1].append(point)
        else:
            rows.append([])
    return [row for row in rows if len(row) > 1]


def is_view(thing):
    """Whether thing is a VIEW."""
    if not is_tuple_of(thing, 2) or not _is_set_of_points(thing[0]) or not _is_set_of_points(thing[1]):
        return False
    return not [point for point in thing[0] if point in thing[1]]


def _is_set_of_points(thing):
    return isinstance(thing, tuple) and all([is_point(point) for point in thing]) and is_ascending(thing)


def are_kinds(thing):
    """Whether thing is a tuple, not (), of unlike KINDS."""
    if not isinstance(thing, tuple) or not thing or not all([_is_kind(kind) for kind in thing]):
        return False
    return all([thing.count(kind) == 1 for kind in thing])


def _is_kind(thing):
    if isinstance(thing, str):
        return thing in ("ring", "flute")
    return is_fraction(thing) and thing != ZERO


def lines_through(view, kinds):
    """The set of the clean LINES of kinds through some POINT of deep."""
    view, kinds = tupled((view, kinds))
    return tuple(sorted({line for point in view[0] for line in _clean_through(point, view, kinds)}))


def _clean_through(point, view, kinds):
    """The list of the clean LINES of kinds through point."""
    lines = [_line_of(kind, point) for kind in kinds]
    return [line for line in lines if _is_clean(line, view)]


def _is_clean(line, view):
    return not [point for point in view[1] if goes_through(line, point)]


def has_lot(view, kinds):
    """Whether there is a LOT."""
    view, kinds = tupled((view, kinds))
    return all([_clean_through(point, view, kinds) != [] for point in view[0]])


def _refuse_without_lot(view, kinds):
    if not has_lot(view, kinds):
        raise NoPaper()


def sure_lines(view, kinds):
    """The set of the LINES that are in all LOTS."""
    view, kinds = tupled((view, kinds))
    _refuse_without_lot(view, kinds)
    alone = [lines[0] for lines in [_clean_through(point, view, kinds) for point in view[0]] if len(lines) == 1]
    return tuple(sorted(set(alone)))


class Lots:
    """The LOTS of the fewest LINES of a VIEW that has LOTS; POINTS of deep are told by 1, 2, 4 .., added up."""

    def __init__(self, view, kinds):
        self.clean = lines_through(view, kinds)
        self.all_deep = 0
        self.covers = [0] * len(self.clean)
        for at, point in enumerate(view[0]):
            self.all_deep += 1 << at
            for number, line in enumerate(self.clean):
                if goes_through(line, point):
                    self.covers[number] += 1 << at
        self.known = {}

    def fewest_from(self, first, left):
        """How many LINES, from number first on, are needed for the POINTS left; None if they do not do."""
        if left == 0:
            return 0
        if (first, left) not in self.known:
            # some LINE is needed for the POINT told by the least number
            point = left & -left
            behind = [self.fewest_from(first, self.left_by(number, left))
                      for number in range(first, len(self.covers)) if self.covers[number] & point]
            self.known[(first, left)] = min([many + 1 for many in behind if many is not None], default=None)
        return self.known[(first, left)]

    def left_by(self, number, left):
        """What of the POINTS left the LINE of this number leaves."""
        return left - (left & self.covers[number])

    def told(self, most):
        """The list of the LOTS, ascending, as many as most of them."""
        found = []
        self.put_on((), 0, self.all_deep, most, found)
        return found

    def put_on(self, chosen, first, left, most, found):
        """Add to found the LOTS that begin with chosen, go on from number first, and have left the POINTS left."""
        if left == 0:
            found.append(chosen)
            return
        many = self.fewest_from(first, left)
        for number in range(first, len(self.covers)):
            more = self.left_by(number, left)
            if len(found) < most and self.fewest_from(number + 1, more) == many - 1:
                self.put_on(chosen + (self.clean[number],), number + 1, more, most, found)


def _fewest_lots(view, kinds, most):
    """The list of the LOTS with the fewest LINES, as many as most of them."""
    _refuse_without_lot(view, kinds)
    return Lots(tupled(view), tupled(kinds)).told(most)


def least_lines(view, kinds):
    """The least LOT."""
    return _fewest_lots(view, kinds, 1)[0]


def is_lines(view, kinds, thing):
    """Whether thing is a LOT."""
    view, kinds = tupled((view, kinds))
    if not isinstance(thing, tuple) or not all([is_line(line) for line in thing]) or not is_ascending(thing):
        return False
    if not all([_kind_of(line) in kinds and _is_clean(line, view) for line in thing]):
        return False
    return all([any([goes_through(line, point) for line in thing]) for point in view[0]])


def _kind_of(line):
    return line[1] if line[0] == "lead" else line[0]


def denial(view, kinds):
    """The least DENIAL."""
    (deep, bare), kinds = tupled((view, kinds))
    for point in deep:
        others = [_bare_on(_line_of(kind, point), bare) for kind in kinds]
        if all([own != [] for own in others]):
            return (point, tuple([own[0] for own in others]))
    raise NoPaper()


def _bare_on(line, bare):
    return [point for point in bare if goes_through(line, point)]


def is_denial(view, kinds, thing):
    """Whether thing is a DENIAL."""
    (deep, bare), kinds = tupled((view, kinds))
    if not is_tuple_of(thing, 2) or not is_point(thing[0]) or thing[0] not in deep:
        return False
    point, others = thing
    if not is_tuple_of(others, len(kinds)) or not all([is_point(own) for own in others]):
        return False
    return all([own in _bare_on(_line_of(kind, point), bare) for own, kind in zip(others, kinds)])


def next_point(view, kinds, points):
    """The least pair (left, number) of how many LOTS of the fewest LINES are left by what the POINT tells."""
    lots = _fewest_lots(view, kinds, MOST_TOLD + 1)
    refuse_too_many(len(lots))
    rows = []
    for number, point in enumerate(tupled(points)):
        many = len([lot for lot in lots if any([goes_through(line, point) for line in lot])])
        rows.append((max(many, len(lots) - many), number))
    return min(rows)
