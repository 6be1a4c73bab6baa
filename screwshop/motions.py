"""MOTIONS, and MOTIONS TOLD: all that keep a BAND, those that some make, both, how many times more."""

from math import gcd, lcm

from screwshop.bars import rows_of
from screwshop.basics import ONE, ZERO, add, common_multiple, divide, fraction, inverse, is_below
from screwshop.basics import is_fraction, is_multiple, is_point, is_tuple_of, multiply
from screwshop.basics import negate, round_by, scaled, size_of, subtract, tupled
from screwshop.errors import TooMany, Unfit
from screwshop.lines import line_moved, steepness

MOST_LINES = 400
STILL = ((0, 1), (0, 1))


def is_motion(thing):
    """Whether thing is a MOTION."""
    # a POINT is made of the same: a FRACTION along, an ANGLE
    return is_point(thing)


def is_motions(thing):
    """Whether thing is MOTIONS TOLD in plain form."""
    if not is_tuple_of(thing, 2) or not isinstance(thing[1], tuple):
        return False
    free, steps = thing
    if not all([is_motion(step) for step in steps]):
        return False
    if isinstance(free, str):
        return _is_plain_under(free, steps)
    return is_fraction(free) and free != ZERO and _is_finely_turned(steps)


def _is_plain_under(free, steps):
    if free in ("all", "turns"):
        return not steps
    if free == "shifts":
        return _is_finely_turned(steps)
    if free != "none" or not steps:
        return free == "none"
    turned, (shift, turn) = steps[:-1], steps[-1]
    if not is_below(ZERO, shift):
        return _is_finely_turned(steps)
    return _is_finely_turned(turned) and is_below(turn, _gap_of_turns(turned))


def _is_finely_turned(steps):
    """Whether steps is () or (0, 1 by m) alone."""
    return not steps or (len(steps) == 1 and steps[0][0] == ZERO and steps[0][1][0] == 1)


def motion_put(one, other):
    """The MOTION of one, then other."""
    one, other = tupled((one, other))
    return (add(one[0], other[0]), round_by(add(one[1], other[1]), ONE))


def motion_power(motion, times):
    """motion so many times, below 0 back."""
    shift, turn = tupled(motion)
    return (scaled(shift, times), round_by(scaled(turn, times), ONE))


def band_moved(band, motion):
    """The BAND to which band goes."""
    band, motion = tupled((band, motion))
    return tuple(sorted([(line_moved(line, motion), depth) for line, depth in band]))


def keeps_band(band, motion):
    """Whether band goes onto itself."""
    return unkept(band, motion) is None


def unkept(band, motion):
    """The least pair of band that goes to none of band; None if motion keeps it."""
    band, motion = tupled((band, motion))
    pairs = {pair: True for pair in band}
    for line, depth in band:
        if (line_moved(line, motion), depth) not in pairs:
            return (line, depth)
    return None


# All but "all" and "turns" are told by three things: the shifts that are made, the turn for each shift, and how
# finely the turns without a shift lie. The grid tells the shifts: None all of them, 0 no other one, else the whole
# multiples of it. With a shift goes each turn that is shift times the rate, and whole multiples of 1 by fine more.

def _gap_of_turns(steps):
    """1 by m of the turns without a shift among what steps make, 1 without."""
    return steps[0][1] if steps and steps[0][0] == ZERO else ONE


def fine_of(motions):
    return _gap_of_turns(motions[1])[1]


def grid_of(motions):
    free, steps = motions
    if free != "none":
        return None
    return steps[-1][0] if steps else ZERO


def rate_of(motions):
    free, steps = motions
    if free == "none":
        return divide(steps[-1][1], steps[-1][0]) if steps and steps[-1][0] != ZERO else ZERO
    return ZERO if free == "shifts" else divide(ONE, free)


def motions_told(free, fine, step):
    """The plain form of free, the turn by 1 by fine, and step, STILL without."""
    steps = [] if fine == 1 else [(ZERO, (1, fine))]
    if step != STILL:
        steps.append((step[0], round_by(step[1], (1, fine))))
    return (free, tuple(steps))


def motions_of(band):
    """All MOTIONS that keep band, told."""
    band = tupled(band)
    motions = ("all", ())
    if [line for line, _ in band if line[0] == "ring"]:
        motions = ("turns", ())
    flutes = [(line[1], depth) for line, depth in band if line[0] == "flute"]
    if flutes:
        motions = motions_both(motions, motions_told("shifts", _repeats(flutes), STILL))
    for lead, row in rows_of(band):
        around = [(divide(phase, size_of(lead)), depth) for phase, depth in row]
        motions = motions_both(motions, motions_told(lead, _repeats(around), STILL))
    return motions


def _repeats(around):
    """The greatest m such that a turn by 1 by m leads these pairs (ANGLE, depth) onto themselves."""
    many = len(around)
    pairs = {pair: True for pair in around}
    for fine in range(many, 1, -1):
        if many % fine == 0 and _repeats_by(pairs, (1, fine)):
            return fine
    return 1


def _repeats_by(pairs, turn):
    return all([(round_by(add(angle, turn), ONE), depth) in pairs for angle, depth in pairs])


def has_motion(motions, motion):
    """Whether motion is one of them."""
    motions, (shift, turn) = tupled((motions, motion))
    if motions[0] == "all":
        return True
    if motions[0] == "turns":
        return shift == ZERO
    grid = grid_of(motions)
    if grid == ZERO and shift != ZERO:
        return False
    if grid not in (None, ZERO) and not is_multiple(shift, grid):
        return False
    return is_multiple(subtract(turn, multiply(rate_of(motions), shift)), (1, fine_of(motions)))


def motions_by(steps):
    """All that comes of steps, put together and back, told."""
    fine, step = 1, STILL
    for shift, turn in tupled(steps):
        step, turned = _without_shift(step, (shift, turn))
        fine = lcm(fine, turned[1])
    return motions_told("none", fine, step)


def _without_shift(one, other):
    """What makes the same as both: a step with a shift from 0 on, and a turn without a shift."""
    (shift, turn), (more, beside) = one, other
    while more != ZERO:
        multiple = divide(subtract(shift, round_by(shift, more)), more)
        shift, more = more, subtract(shift, multiply(more, multiple))
        turn, beside = beside, subtract(turn, multiply(beside, multiple))
    if is_below(shift, ZERO):
        shift, turn = negate(shift), negate(turn)
    return (shift, turn), beside


def motions_both(near, far):
    """The MOTIONS of both, told."""
    near, far = tupled((near, far))
    if near[0] == "all" or near == far:
        return far
    if far[0] == "all":
        return near
    if near[0] == "turns":
        return motions_told("none", fine_of(far), STILL)
    if far[0] == "turns":
        return motions_told("none", fine_of(near), STILL)
    fine = gcd(fine_of(near), fine_of(far))
    grid = _grid_of_both(near, far)
    if grid is None:
        return motions_told(near[0], fine, STILL)
    return motions_told("none", fine, (grid, _turn_of_both(near, far, grid)))


def _grid_of_both(near, far):
    """The grid of those of both."""
    apart = subtract(rate_of(near), rate_of(far))
    bottom = lcm(fine_of(near), fine_of(far))
    grids = [grid for grid in (grid_of(near), grid_of(far)) if grid is not None]
    if ZERO in grids:
        return ZERO
    if not grids:
        # the turns of both for one shift may be apart by whole multiples of 1 by bottom alone
        return None if apart == ZERO else size_of(divide((1, bottom), apart))
    grid = common_multiple(grids[0], grids[-1])
    return scaled(grid, multiply(multiply(grid, apart), (bottom, 1))[1])


def _turn_of_both(near, far, shift):
    """A turn that goes with shift in both."""
    turn, wanted = multiply(rate_of(near), shift), multiply(rate_of(far), shift)
    return common_turn(turn, fine_of(near), wanted, fine_of(far))


def common_turn(turn, own, wanted, others):
    """What is turn but for whole multiples of 1 by own, and wanted but for those of 1 by others."""
    bottom = lcm(own, others)
    number = scaled(subtract(wanted, turn), bottom)[0]
    steps = number * inverse(bottom // own, bottom // others)
    return add(turn, fraction(steps, own))


def index_of(larger, smaller):
    """Into how many sets larger falls, each of smaller and one MOTION behind it; None without end."""
    larger, smaller = tupled((larger, smaller))
    if motions_both(larger, smaller) != smaller:
        raise Unfit()
    if larger == smaller:
        return 1
    if larger[0] in ("all", "turns"):
        return None
    grid, coarse = grid_of(larger), grid_of(smaller)
    finer = fine_of(larger) // fine_of(smaller)
    if grid == coarse:
        return finer
    if grid is None or coarse == ZERO:
        return None
    return divide(coarse, grid)[0] * finer


def lines_from(motions, line):
    """The set of the LINES to which they lead line."""
    motions, line = tupled((motions, line))
    many = _few_lines(motions, line)
    turns = [fraction(number, many) for number in range(many)]
    return tuple(sorted([line_moved(line, (ZERO, turn)) for turn in turns]))


def _few_lines(motions, line):
    """To how many LINES they lead line; TooMany() for more than are told."""
    many = _many_lines(motions, line)
    if many is None or many > MOST_LINES:
        raise TooMany()
    return many


def _many_lines(motions, line):
    """To how many LINES they lead line; None without end."""
    free = motions[0]
    if line[0] == "ring":
        return 1 if free == "turns" or grid_of(motions) == ZERO else None
    if free in ("all", "turns"):
        return None
    grid, fine = grid_of(motions), fine_of(motions)
    drift = subtract(rate_of(motions), steepness(line))
    if grid is None:
        return fine if drift == ZERO else None
    return lcm(fine, multiply(drift, grid)[1])


def band_from(motions, band):
    """The least BAND with band in it that they keep."""
    motions, band = tupled((motions, band))
    for line, _ in band:
        _few_lines(motions, line)
    depths = {}
    for line, depth in band:
        # a LINE that another one was led to leads to nothing else
        if depths.get(line) != depth:
            _note_depth(depths, lines_from(motions, line), depth)
    return tuple(sorted([(line, depths[line]) for line in depths]))


def _note_depth(depths, lines, depth):
    for line in lines:
        if depths.setdefault(line, depth) != depth:
            raise Unfit()
