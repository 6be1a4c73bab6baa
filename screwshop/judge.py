"""CLAIMS, and one judge for all PAPERS that they are so, or are not."""

from screwshop.bars import is_bar, plain_bar
from screwshop.basics import HALF, ONE, ZERO, is_fraction, is_number, is_number_from_one, is_tuple_of
from screwshop.basics import multiply, negate, tupled, weights_of
from screwshop.dividing import circles_for, is_no_circles, is_plate, no_circles
from screwshop.errors import NoPaper, NoWord, Unfit
from screwshop.misfits import are_pieces, is_parting_at, parting_at, shift_between
from screwshop.motions import is_motion
from screwshop.nested import STILL, free_move, is_move, is_nest, is_part, is_stay, stay_of
from screwshop.nuts import is_nut
from screwshop.passes import are_cuts_for, cuts_for, is_lathe, phase_number, unmade
from screwshop.pawls import beat_of, comes_through, divisor_paper, is_divisor_paper, is_track
from screwshop.sheets import are_kinds, denial, has_lot, is_denial, is_lines, is_view, least_lines
from screwshop.tied import goes_by, is_lock, is_tie, lock_of, tied_far

# A word has five functions: of the right shape, so, a PAPER of it, shows that it is so, shows that it is not. Each
# takes all things of the CLAIM behind its word.


def _are_cuts_things(things):
    return is_tuple_of(things, 2) and is_lathe(things[0]) and is_bar(things[1])


def _cuts_so(things):
    lathe, bar = things
    return unmade(lathe, plain_bar(bar)) is None


def _cuts_paper(things):
    lathe, bar = things
    return cuts_for(lathe, bar) if _cuts_so(things) else unmade(lathe, plain_bar(bar))


def _cuts_shown(things, thing):
    lathe, bar = things
    return are_cuts_for(lathe, bar, thing)


def _cuts_denied(things, thing):
    lathe, bar = things
    grooves = plain_bar(bar)[1]
    return is_number(thing) and 0 <= thing < len(grooves) and phase_number(lathe, grooves[thing][0]) is None


def _are_goes_things(things):
    if not is_tuple_of(things, 6):
        return False
    bar, nut, far, other, tie, stand = things
    return is_bar(bar) and is_nut(nut) and is_bar(far) and is_nut(other) and is_tie(tie) and _is_stand(stand)


def _is_stand(thing):
    if not is_tuple_of(thing, 2) or not is_tuple_of(thing[0], 2) or not is_tuple_of(thing[1], 2):
        return False
    return all([is_fraction(own) for own in thing[0] + thing[1]])


def _goes_so(things):
    return _some_amount(things) is not None


def _some_amount(things):
    """An amount but 0 by which the STAND goes; None if there is none."""
    bar, nut, far, other, tie, stand = things
    for onward in (True, False):
        limit = tied_far(bar, nut, far, other, tie, stand, onward)
        if limit != ZERO:
            amount = ONE if limit is None else multiply(limit, HALF)
            return amount if onward else negate(amount)
    return None


def _goes_paper(things):
    amount = _some_amount(things)
    if amount is not None:
        return amount
    bar, nut, far, other, tie, stand = things
    return lock_of(bar, nut, far, other, tie, stand)


def _goes_shown(things, thing):
    bar, nut, far, other, tie, stand = things
    return is_fraction(thing) and thing != ZERO and goes_by(bar, nut, far, other, tie, stand, thing)


def _goes_denied(things, thing):
    bar, nut, far, other, tie, stand = things
    return is_lock(bar, nut, far, other, tie, stand, thing)


def _are_comes_things(things):
    return is_tuple_of(things, 1) and is_track(things[0])


def _comes_so(things):
    return comes_through(things[0])


def _comes_paper(things):
    track = things[0]
    return weights_of(beat_of(track), track[3])[1:] if comes_through(track) else divisor_paper(track)


def _comes_shown(things, thing):
    track = things[0]
    if not is_tuple_of(thing, 2) or not is_number(thing[0]) or not is_number(thing[1]):
        return False
    return thing[0] * beat_of(track) + thing[1] * track[3] == 1


def _comes_denied(things, thing):
    return is_divisor_paper(things[0], thing)


def _are_led_things(things):
    return is_tuple_of(things, 2) and are_pieces(things[0]) and are_pieces(things[1])


def _led_so(things):
    return _motion_of(things) is not None


def _motion_of(things):
    """The MOTION that leads the one PIECES onto the others; None if there is none."""
    try:
        return shift_between(things[0], things[1])
    except NoPaper:
        return None


def _led_paper(things):
    motion = _motion_of(things)
    return parting_at(things[0], things[1]) if motion is None else motion


def _led_shown(things, thing):
    return is_motion(thing) and thing == _motion_of(things)


def _led_denied(things, thing):
    return is_parting_at(things[0], things[1], thing)


def _are_moves_things(things):
    return is_tuple_of(things, 2) and is_nest(things[0]) and is_part(things[1], len(things[0][0]))


def _moves_so(things):
    return _free_move_of(things) is not None


def _free_move_of(things):
    """A MOVE in which the PART goes or turns; None if there is none."""
    try:
        return free_move(things[0], things[1])
    except NoPaper:
        return None


def _moves_paper(things):
    move = _free_move_of(things)
    return stay_of(things[0], things[1]) if move is None else move


def _moves_shown(things, thing):
    return is_move(things[0], thing) and thing[things[1] - 1] != STILL


def _moves_denied(things, thing):
    return is_stay(things[0], things[1], thing)


def _are_divides_things(things):
    return is_tuple_of(things, 2) and is_plate(things[0]) and is_number_from_one(things[1])


def _divides_so(things):
    return circles_for(things[0], things[1]) != ()


def _divides_paper(things):
    circles = circles_for(things[0], things[1])
    return circles[0] if circles else no_circles(things[0], things[1])


def _divides_shown(things, thing):
    return is_number(thing) and thing in circles_for(things[0], things[1])


def _divides_denied(things, thing):
    return is_no_circles(things[0], things[1], thing)


def _are_lines_things(things):
    return is_tuple_of(things, 2) and is_view(things[0]) and are_kinds(things[1])


def _lines_so(things):
    return has_lot(things[0], things[1])


def _lines_paper(things):
    return least_lines(things[0], things[1]) if _lines_so(things) else denial(things[0], things[1])


def _lines_shown(things, thing):
    return is_lines(things[0], things[1], thing)


def _lines_denied(things, thing):
    return is_denial(things[0], things[1], thing)


MANY = {"cuts": 2, "goes": 6, "comes": 1, "led": 2, "moves": 2, "divides": 2, "lines": 2}
SHAPES = {"cuts": _are_cuts_things, "goes": _are_goes_things, "comes": _are_comes_things, "led": _are_led_things,
          "moves": _are_moves_things, "divides": _are_divides_things, "lines": _are_lines_things}
SO = {"cuts": _cuts_so, "goes": _goes_so, "comes": _comes_so, "led": _led_so, "moves": _moves_so,
      "divides": _divides_so, "lines": _lines_so}
PAPERS = {"cuts": _cuts_paper, "goes": _goes_paper, "comes": _comes_paper, "led": _led_paper, "moves": _moves_paper,
          "divides": _divides_paper, "lines": _lines_paper}
SHOWN = {"cuts": _cuts_shown, "goes": _goes_shown, "comes": _comes_shown, "led": _led_shown, "moves": _moves_shown,
         "divides": _divides_shown, "lines": _lines_shown}
DENIED = {"cuts": _cuts_denied, "goes": _goes_denied, "comes": _comes_denied, "led": _led_denied,
          "moves": _moves_denied, "divides": _divides_denied, "lines": _lines_denied}


def is_claim(thing):
    """Whether thing is a CLAIM."""
    if not isinstance(thing, tuple) or not thing or not isinstance(thing[0], str) or thing[0] not in SHAPES:
        return False
    has_shape = SHAPES[thing[0]]
    return has_shape(thing[1:])


def _told(claim):
    """The pair (word, things) of claim; NoWord(word), then Unfit() if it has not as many things."""
    claim = tupled(claim)
    word = claim[0] if claim else None
    if word not in MANY:
        raise NoWord(word)
    if len(claim) - 1 != MANY[word]:
        raise Unfit()
    return word, claim[1:]


def is_so(claim):
    """Whether claim is so."""
    word, things = _told(claim)
    holds = SO[word]
    return holds(things)


def paper(claim):
    """A PAPER of claim."""
    word, things = _told(claim)
    paper_for = PAPERS[word]
    return paper_for(things)


def is_paper(claim, thing):
    """Whether thing is a PAPER of claim."""
    return shows(claim, thing) is not None


def shows(claim, thing):
    """True if thing shows that claim is so, False if it shows that it is not, None if it is no PAPER of it."""
    word, things = _told(claim)
    is_it_so = is_so(claim)
    fits = SHOWN[word] if is_it_so else DENIED[word]
    return is_it_so if fits(things, thing) else None


def not_so(claims):
    """The set of the numbers of those claims that are not so."""
    return tuple([number for number, claim in enumerate(claims) if not is_so(claim)])


def words_so(claims):
    """The set of the words of which one CLAIM at least is among claims, and all of these are so."""
    told = [(is_so(claim), claim[0]) for claim in claims]
    wrong = [word for holds, word in told if not holds]
    return tuple(sorted({word for _, word in told if word not in wrong}))
