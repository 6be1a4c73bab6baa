"""Alike BANDS and BARS: MOTIONS from one to another, turns, ends exchanged, POINTS that part two."""

from math import lcm

from screwshop.bars import is_telling_point, plain_bar, telling_point
from screwshop.basics import ONE, ZERO, add, by_value, divide, greater, multiply, round_by, scaled
from screwshop.basics import subtract, times_round, tupled
from screwshop.errors import NoPaper
from screwshop.lines import angle_on, ends_turned, line_mirrored, line_moved, steepness
from screwshop.motions import STILL, band_moved, common_turn, fine_of, grid_of, is_motion, motions_both
from screwshop.motions import motions_told, rate_of


def alike_bands(band, other):
    """Whether some MOTION leads band to other."""
    try:
        motion_between(band, other)
    except NoPaper:
        return False
    return True


def motion_between(band, other):
    """A MOTION that leads band to other."""
    rings, rows = _rings_and_rows(tupled(band))
    other_rings, other_rows = _rings_and_rows(tupled(other))
    if len(rings) != len(other_rings) or sorted(rows) != sorted(other_rows):
        raise NoPaper()
    motion, motions = STILL, ("all", ())
    if rings:
        motion, motions = (_shift_between(rings, other_rings), ZERO), ("turns", ())
    # what leads all kinds of LINES that were looked at is motion and, behind it, any one of motions
    for steep in rows:
        turns = _turns_between_rows(rows[steep], other_rows[steep])
        far = motions_told("shifts" if steep == ZERO else divide(ONE, steep), len(turns), STILL)
        motion = _led_by_both(motion, motions, turns[0], far)
        motions = motions_both(motions, far)
    return motion


def _rings_and_rows(band):
    """The depths of the rings, by PLACE; and by how steep they are those of other LINES, by ANGLE at PLACE 0."""
    rings, rows = {}, {}
    for line, depth in band:
        if line[0] == "ring":
            rings[line[1]] = depth
        else:
            row = rows.setdefault(steepness(line), {})
            row[angle_on(line, ZERO)] = depth
    return rings, rows


def _shift_between(rings, others):
    """The shift that leads rings to others, as many."""
    shift = subtract(by_value(list(others))[0], by_value(list(rings))[0])
    if {add(place, shift): rings[place] for place in rings} != others:
        raise NoPaper()
    return shift


def _turns_between_rows(row, others):
    """All turns that lead row to others."""
    first = list(row)[0]
    turns = [round_by(subtract(angle, first), ONE) for angle in others]
    fits = [turn for turn in turns if _row_turned(row, turn) == others]
    if not fits:
        raise NoPaper()
    return fits


def _row_turned(row, turn):
    return {round_by(add(angle, turn), ONE): row[angle] for angle in row}


def _led_by_both(motion, near, turn, far):
    """What is a MOTION of near behind motion, and one of far, which has all shifts, behind (0, turn)."""
    shift, turned = motion
    if near[0] == "all":
        return (ZERO, turn)
    wanted = subtract(add(turn, multiply(rate_of(far), shift)), turned)
    if near[0] == "turns":
        return (shift, round_by(add(turned, wanted), ONE))
    more = _shift_for_both(near, far, wanted)
    own = add(turned, multiply(rate_of(near), more))
    others = add(add(turned, wanted), multiply(rate_of(far), more))
    return (add(shift, more), round_by(common_turn(own, fine_of(near), others, fine_of(far)), ONE))


def _shift_for_both(near, far, wanted):
    """A shift of near behind which far, that is wanted ahead of near, has a turn of near."""
    drift, grid = subtract(rate_of(near), rate_of(far)), grid_of(near)
    if grid is None:
        return divide(wanted, drift)
    many = lcm(fine_of(near), fine_of(far))
    times = times_round(scaled(multiply(drift, grid), many), scaled(wanted, many))
    if times is None:
        raise NoPaper()
    return scaled(grid, times)


def is_motion_between(band, other, thing):
    """Whether thing is a MOTION that leads band to other."""
    return is_motion(thing) and band_moved(band, thing) == tupled(other)


def mirror_between(band, other):
    """A MOTION that leads the mirror of band to other."""
    return motion_between(_band_mirrored(band), other)


def _band_mirrored(band):
    return tuple(sorted([(line_mirrored(line), depth) for line, depth in tupled(band)]))


def is_mirror_between(band, other, thing):
    """Whether thing is a MOTION that leads the mirror of band to other."""
    return is_motion_between(_band_mirrored(band), other, thing)


def turns_between(bar, other):
    """The set of the ANGLES by which bar turned is other, "all" if each one does."""
    near, far = plain_bar(bar), plain_bar(other)
    lines = [groove[0] for groove in near[1] if groove[0][0] != "ring"]
    if near[0] != far[0]:
        return ()
    if not lines:
        return "all" if near == far else ()
    steep, angle = steepness(lines[0]), angle_on(lines[0], ZERO)
    others = [groove[0] for groove in far[1] if steepness(groove[0]) == steep]
    turns = [round_by(subtract(angle_on(line, ZERO), angle), ONE) for line in others]
    return tuple(sorted({turn for turn in turns if _bar_turned(near, turn) == far}))


def _bar_turned(bar, angle):
    length, grooves = bar
    return (length, tuple(sorted([(line_moved(line, (ZERO, angle)), start, end, depth)
                                  for line, start, end, depth in grooves])))


def ends_exchanged(bar):
    """The plain BAR as long, its ends exchanged."""
    length, grooves = plain_bar(bar)
    exchanged = [(ends_turned(line, length), subtract(length, end), subtract(length, start), depth)
                 for line, start, end, depth in grooves]
    return (length, tuple(sorted(exchanged)))


def bar_mirrored(bar):
    """The plain BAR as long with all POINTS led by the mirror."""
    length, grooves = plain_bar(bar)
    return (length, tuple(sorted([(line_mirrored(groove[0]),) + groove[1:] for groove in grooves])))


def alike_bars(bar, other):
    """Whether they are as long and one, its ends exchanged or not, then turned, is the other."""
    return turns_between(bar, other) != () or turns_between(ends_exchanged(bar), other) != ()


def is_handed(bar):
    """Whether bar is not alike to its mirror."""
    return not alike_bars(bar, bar_mirrored(bar))


def parting_point(bar, other, angle):
    """A POINT that parts bar, turned by angle, from other."""
    near, far = _turned_as_long(bar, other, angle)
    return telling_point(near, far)


def _turned_as_long(bar, other, angle):
    """bar turned by angle, and other, the shorter one with nothing added up to the end of the longer one."""
    bar, other, angle = tupled((bar, other, angle))
    length = greater(bar[0], other[0])
    return _bar_turned((length, bar[1]), angle), (length, other[1])


def is_parting_point(bar, other, angle, thing):
    """Whether thing is a POINT that parts bar, turned by angle, from other."""
    near, far = _turned_as_long(bar, other, angle)
    return is_telling_point(near, far, thing)
