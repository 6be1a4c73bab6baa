"""Dividing: circles of holes by which a crank divides the work."""

from math import gcd

from screwshop.basics import is_ascending, is_number, is_number_from_one, is_tuple_of, tupled
from screwshop.errors import NoPaper, Unfit


def is_plate(thing):
    """Whether thing is a PLATE."""
    if not is_tuple_of(thing, 2) or not is_number_from_one(thing[0]) or not isinstance(thing[1], tuple):
        return False
    circles = thing[1]
    return circles != () and all([is_number_from_one(circle) for circle in circles]) and is_ascending(circles)


def circles_for(plate, many):
    """The set of the circles in whose holes the step is whole."""
    worm, circles = plate
    return tuple([circle for circle in circles if worm * circle % many == 0])


def holes_moved(plate, many, circle):
    """The pair (turns, holes) of the step on circle."""
    if circle not in circles_for(plate, many):
        raise Unfit()
    return divmod(plate[0] * circle // many, circle)


def no_circles(plate, many):
    """The NO LIST with the least powers."""
    worm, circles = plate
    powers = _prime_powers(many)
    found = []
    for circle in circles:
        fits = [power for power in powers if worm * circle % power != 0]
        if not fits:
            raise NoPaper()
        found.append(min(fits))
    return tuple(found)


def _prime_powers(many):
    """The list of the powers, above 1, of primes that divide many."""
    powers, left, prime = [], many, 2
    while left > 1:
        if prime * prime > left:
            prime = left
        power = prime
        while left % prime == 0:
            left //= prime
            powers.append(power)
            power *= prime
        prime += 1
    return powers


def is_no_circles(plate, many, thing):
    """Whether thing is a NO LIST."""
    worm, circles = plate
    if not is_tuple_of(thing, len(circles)):
        return False
    powers = _prime_powers(many)
    return all([power in powers and worm * circle % power != 0 for power, circle in zip(thing, circles)])


def compound_for(plate, many):
    """The least COMPOUND."""
    _, circles = tupled(plate)
    for at, one in enumerate(circles):
        for other in circles[at + 1:]:
            for ahead in range(one):
                more = _more_holes(plate, many, one, other, ahead)
                if more is not None:
                    return (one, other, ahead, more)
    raise NoPaper()


def _more_holes(plate, many, one, other, ahead):
    """So many holes of other make up the step behind ahead of one; None if they are not whole."""
    left = (plate[0] * one - ahead * many) * other
    return left // (many * one) if left % (many * one) == 0 else None


def is_compound(plate, many, thing):
    """Whether thing is a COMPOUND."""
    if not is_tuple_of(thing, 4) or not all([is_number(own) for own in thing]):
        return False
    one, other, ahead, more = thing
    if one not in plate[1] or other not in plate[1] or one >= other or not 0 <= ahead < one:
        return False
    return _more_holes(plate, many, one, other, ahead) == more


def closes_round(plate, circle, holes):
    """The pair (steps, rounds) behind which the work stands as at first."""
    worm, circles = plate
    if circle not in circles:
        raise Unfit()
    divisor = gcd(worm * circle, holes)
    return (worm * circle // divisor, holes // divisor)
