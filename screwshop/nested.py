"""NESTS of PARTS screwed into one another: which MOVES there are, what gains, what stays, how far it goes."""

from math import gcd

from screwshop.basics import ONE, ZERO, add, by_value, common_bottom, divide, fraction, is_ascending, is_below
from screwshop.basics import is_fraction, is_number, is_number_from_one, is_tuple_of, multiply, negate, scaled
from screwshop.basics import subtract, tupled, weights_of
from screwshop.errors import NoPaper, Unfit

STILL = (ZERO, ZERO)


def is_nest(thing):
    """Whether thing is a NEST."""
    if not is_tuple_of(thing, 2) or not isinstance(thing[0], tuple) or not isinstance(thing[1], tuple):
        return False
    leads, held = thing
    if not leads or not all([is_fraction(lead) and lead != ZERO for lead in leads]):
        return False
    return all([_is_hold(hold, len(leads)) for hold in held]) and is_ascending(held)


def _is_hold(thing, many):
    return is_tuple_of(thing, 2) and is_part(thing[0], many) and thing[1] in ("along", "round")


def is_part(thing, many):
    """Whether thing is the number of one of so many PARTS, from 1."""
    return is_number_from_one(thing) and thing <= many


def is_move(nest, thing):
    """Whether thing is a MOVE of nest."""
    leads, held = tupled(nest)
    if not is_tuple_of(thing, len(leads)) or not all([_is_pair_of_fractions(own) for own in thing]):
        return False
    if thing != _move_by(leads, [turn for _, turn in thing]):
        return False
    return all([_amount_of(hold, thing) == ZERO for hold in held])


def _is_pair_of_fractions(thing):
    return is_tuple_of(thing, 2) and is_fraction(thing[0]) and is_fraction(thing[1])


def _move_by(leads, turns):
    """What the PARTS do by these turns, leads kept."""
    move, shift, ahead = [], ZERO, ZERO
    for lead, turn in zip(leads, turns):
        shift, ahead = add(shift, multiply(lead, subtract(turn, ahead))), turn
        move.append((shift, turn))
    return tuple(move)


def _amount_of(hold, move):
    """How far this PART goes, "along", or turns, "round", in move."""
    part, way = hold
    return move[part - 1][0 if way == "along" else 1]


# All is told by rows of FRACTIONS, one for each PART: turns, or by how much something is more for each turn.

def _units(many):
    return [[ONE if at == own else ZERO for at in range(many)] for own in range(many)]


def _row_of(leads, hold):
    """By how much what is held is more for a turn of each PART alone."""
    return [_amount_of(hold, _move_by(leads, turns)) for turns in _units(len(leads))]


def _row_less(row, other, times):
    return [subtract(own, multiply(part, times)) for own, part in zip(row, other)]


def _in_steps(rows):
    """What these rows make, put in steps: each begins with 1, where all others have 0, ascending by that."""
    left, done = [list(row) for row in rows], []
    for at in range(len(rows[0]) if rows else 0):
        firsts = [row for row in left if row[at] != ZERO]
        if firsts:
            step = [divide(own, firsts[0][at]) for own in firsts[0]]
            left = [_row_less(row, step, row[at]) for row in left]
            done = [_row_less(row, step, row[at]) for row in done] + [step]
    return done


def _times_for(columns, wanted):
    """So many times each of columns, added up, is wanted; None if it can not be."""
    many = len(columns)
    rows = [[column[at] for column in columns] + [worth] for at, worth in enumerate(wanted)]
    times = [ZERO] * many
    for row in _in_steps(rows):
        first = [own != ZERO for own in row].index(True)
        if first == many:
            return None
        times[first] = row[many]
    return times


def _added(values):
    total = ZERO
    for value in values:
        total = add(total, value)
    return total


def _rows_added(rows, times, many):
    """So many times each of these rows of many FRACTIONS, added up."""
    return [_added([multiply(row[at], own) for row, own in zip(rows, times)]) for at in range(many)]


def freedom(nest):
    """How many MOVES are needed at least for all to come of them."""
    return len(plain_moves(nest))


def plain_moves(nest):
    """The tuple of MOVES of which all come, in each of which the first PART that turns turns by 1."""
    leads, held = tupled(nest)
    rows = _units(len(leads))
    for hold in held:
        rows = _without(rows, [_amount_of(hold, _move_by(leads, row)) for row in rows])
    return tuple([_move_by(leads, row) for row in _in_steps(rows)])


def _without(rows, amounts):
    """What of all that comes of these rows has no amount."""
    for row, amount in zip(rows, amounts):
        if amount != ZERO:
            unit = [divide(own, amount) for own in row]
            return [_row_less(own, unit, worth) for own, worth in zip(rows, amounts)]
    return rows


def move_with(nest, turned):
    """The MOVE in which these PARTS turn so."""
    (leads, _), turned = tupled((nest, turned))
    moves = plain_moves(nest)
    columns = [[move[part - 1][1] for part, _ in turned] for move in moves]
    times = _times_for(columns, [turn for _, turn in turned])
    if times is None or len(_in_steps(columns)) < len(moves):
        raise Unfit()
    rows = [[turn for _, turn in move] for move in moves]
    return _move_by(leads, _rows_added(rows, times, len(leads)))


def gain_of(nest, part, far):
    """How far along PART far goes when PART part turns by 1."""
    moves = plain_moves(nest)
    turns, shifts = [move[part - 1][1] for move in moves], [move[far - 1][0] for move in moves]
    gains = [divide(shift, turn) for turn, shift in zip(turns, shifts) if turn != ZERO]
    if not gains or [multiply(gains[0], turn) for turn in turns] != shifts:
        raise Unfit()
    return gains[0]


def turn_for(nest, part, far, shift):
    """The turn of part with which far goes along by shift."""
    gain = gain_of(nest, part, far)
    if gain == ZERO:
        raise Unfit()
    return divide(tupled(shift), gain)


def _gains_by_clicks(nest, dials, far):
    """For each of dials how far along far goes by one click of it alone."""
    dials = tupled(dials)
    # by no clicks at all one MOVE at least is made; if it is the only one each choice makes one at most
    move_with(nest, [(part, ZERO) for part, _ in dials])
    gains = []
    for part, clicks in dials:
        move = move_with(nest, [(own, (1, clicks) if own == part else ZERO) for own, _ in dials])
        gains.append(move[far - 1][0])
    return gains


def _tops_over(values, bottom):
    """The tops of these FRACTIONS over a common bottom."""
    return [value[0] * (bottom // value[1]) for value in values]


def finest_move(nest, dials, far):
    """The least shift above 0 that far makes by clicks of dials; None without any."""
    gains = _gains_by_clicks(nest, dials, far)
    bottom, divisor = common_bottom(gains), 0
    for top in _tops_over(gains, bottom):
        divisor = gcd(divisor, top)
    return fraction(divisor, bottom) if divisor else None


def clicks_for(nest, dials, far, shift):
    """A tuple of numbers of clicks, one for each of dials, with which far goes along by shift."""
    gains, shift = _gains_by_clicks(nest, dials, far), tupled(shift)
    bottom, divisor, clicks = common_bottom(gains + [shift]), 0, []
    for top in _tops_over(gains, bottom):
        divisor, weight, own = weights_of(divisor, top)
        clicks = [many * weight for many in clicks] + [own]
    wanted = shift[0] * (bottom // shift[1])
    if (wanted % divisor if divisor else wanted) != 0:
        raise NoPaper()
    return tuple([many * (wanted // max(divisor, 1)) for many in clicks])


def are_clicks(nest, dials, far, shift, thing):
    """Whether thing is a tuple of numbers of clicks with which far goes along by shift."""
    gains = _gains_by_clicks(nest, dials, far)
    if not is_tuple_of(thing, len(gains)) or not all([is_number(many) for many in thing]):
        return False
    return _added([scaled(gain, many) for gain, many in zip(gains, thing)]) == tupled(shift)


def free_move(nest, part):
    """The first of plain_moves in which PART part goes or turns."""
    for move in plain_moves(nest):
        if move[part - 1] != STILL:
            return move
    raise NoPaper()


def stay_of(nest, part):
    """A STAY of PART part."""
    leads, held = tupled(nest)
    rows = [_row_of(leads, hold) for hold in held]
    rounds, alongs = [_times_for(rows, _row_of(leads, (part, way))) for way in ("round", "along")]
    if rounds is None or alongs is None:
        raise NoPaper()
    return (tuple(rounds), tuple(alongs))


def is_stay(nest, part, thing):
    """Whether thing is a STAY of PART part."""
    leads, held = tupled(nest)
    if not is_tuple_of(thing, 2) or not all([_are_fractions(own, len(held)) for own in thing]):
        return False
    rows = [_row_of(leads, hold) for hold in held]
    return all([_rows_added(rows, own, len(leads)) == _row_of(leads, (part, way))
                for own, way in zip(thing, ("round", "along"))])


def _are_fractions(thing, many):
    return is_tuple_of(thing, many) and all([is_fraction(own) for own in thing])


def reach_of(nest, stops, part, up):
    """The greatest size of turn of part, up or down, until a PART is at a stop, and the least PART that then is."""
    moves, stops = plain_moves(nest), tupled(stops)
    if len(moves) != 1 or moves[0][part - 1][1] == ZERO:
        raise Unfit()
    turn = moves[0][part - 1][1]
    reaches, ahead = [], ZERO
    for (shift, _), (low, high) in zip(moves[0], stops):
        gone = divide(subtract(shift, ahead), turn if up else negate(turn))
        ahead = shift
        reaches.append(None if gone == ZERO else divide(high if is_below(ZERO, gone) else low, gone))
    least = by_value([reach for reach in reaches if reach is not None])[0]
    return (least, reaches.index(least) + 1)
