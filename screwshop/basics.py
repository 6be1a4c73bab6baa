"""What all other files stand on: FRACTIONS, the shapes of things, SCREWS."""

from math import gcd, lcm

from screwshop.errors import TooMany

ZERO = (0, 1)
ONE = (1, 1)
HALF = (1, 2)
MOST_TOLD = 400


def tupled(value):
    """value with tuples in place of lists, at any depth."""
    if isinstance(value, (list, tuple)):
        return tuple([tupled(part) for part in value])
    return value


def fraction(top, bottom):
    """top divided by bottom, bottom not 0."""
    divisor = gcd(top, bottom)
    if bottom < 0:
        divisor = -divisor
    return (top // divisor, bottom // divisor)


def add(one, other):
    return fraction(one[0] * other[1] + other[0] * one[1], one[1] * other[1])


def subtract(one, other):
    return fraction(one[0] * other[1] - other[0] * one[1], one[1] * other[1])


def multiply(one, other):
    return fraction(one[0] * other[0], one[1] * other[1])


def divide(one, other):
    return fraction(one[0] * other[1], one[1] * other[0])


def negate(value):
    return (-value[0], value[1])


def size_of(value):
    return (abs(value[0]), value[1])


def scaled(value, number):
    """value times a number."""
    return fraction(value[0] * number, value[1])


def is_whole(value):
    return value[1] == 1


def is_below(one, other):
    return one[0] * other[1] < other[0] * one[1]


def is_within(value, low, high):
    """Whether value is from low to high, both included."""
    return not is_below(value, low) and not is_below(high, value)


def lesser(one, other):
    return other if is_below(other, one) else one


def greater(one, other):
    return other if is_below(one, other) else one


def round_by(value, step):
    """value less the greatest whole multiple of the size of step that is at most value."""
    multiple = (value[0] * step[1]) // (value[1] * abs(step[0]))
    return subtract(value, scaled(size_of(step), multiple))


def is_multiple(value, step):
    """Whether value is a whole multiple of step, step not 0."""
    return is_whole(divide(value, step))


def common_multiple(one, other):
    """The least FRACTION above 0 that is a whole multiple of both, which are above 0."""
    bottom = lcm(one[1], other[1])
    return fraction(lcm(one[0] * (bottom // one[1]), other[0] * (bottom // other[1])), bottom)


def common_bottom(values):
    bottom = 1
    for value in values:
        bottom = lcm(bottom, value[1])
    return bottom


def by_value(values):
    """The list of these FRACTIONS, each once, ascending by value."""
    unlike = sorted(set(values))
    bottom = common_bottom(unlike)
    return sorted(unlike, key=lambda value: value[0] * (bottom // value[1]))


def by_first(rows):
    """The list of these tuples, ascending by the value of their first thing, a FRACTION."""
    bottom = common_bottom([row[0] for row in rows])
    return sorted(rows, key=lambda row: row[0][0] * (bottom // row[0][1]))


def weights_of(one, other):
    """The triple (divisor, weight, other weight): the greatest divisor of both, which is both weighed, added up."""
    ahead, behind = (one, 1, 0), (other, 0, 1)
    while behind[0] != 0:
        multiple = ahead[0] // behind[0]
        rest = tuple([near - multiple * far for near, far in zip(ahead, behind)])
        ahead, behind = behind, rest
    return ahead if ahead[0] >= 0 else tuple([-part for part in ahead])


def inverse(number, modulus):
    """From 0, below modulus: what times number is 1, round by modulus; no divisor above 1 is in both."""
    return weights_of(number, modulus)[1] % modulus


def floor_of(value):
    """The greatest whole number that is at most value."""
    return value[0] // value[1]


def middle_of(one, other):
    return multiply(add(one, other), HALF)


def first_from(member, step, start):
    """The least FRACTION from start on that is member but for whole multiples of step."""
    return add(start, round_by(subtract(member, start), step))


def many_within(member, step, low, high):
    """How many FRACTIONS from low to high are member but for whole multiples of step."""
    first = first_from(member, step, low)
    if is_below(high, first):
        return 0
    return floor_of(divide(subtract(high, first), size_of(step))) + 1


def all_within(member, step, low, high):
    """The list of these FRACTIONS, ascending by value."""
    first, apart = first_from(member, step, low), size_of(step)
    return [add(first, scaled(apart, number)) for number in range(many_within(member, step, low, high))]


def times_round(step, wanted):
    """The least number from 0 such that step times it is wanted but for whole numbers; None if there is none."""
    number = scaled(wanted, step[1])
    return number[0] * inverse(step[0], step[1]) % step[1] if is_whole(number) else None


def simplest_between(low, high):
    """Of the FRACTIONS above low and below high the one with the least bottom, of several the least."""
    whole = (floor_of(low), 1)
    following = add(whole, ONE)
    if is_below(following, high):
        return following
    # none is whole: what is over the whole is 1 by what is simplest between the inverses
    under, over = subtract(low, whole), subtract(high, whole)
    if under == ZERO:
        return add(whole, (1, floor_of(divide(ONE, over)) + 1))
    return add(whole, divide(ONE, simplest_between(divide(ONE, over), divide(ONE, under))))


def refuse_too_many(many):
    """TooMany() if these are more than are told."""
    if many > MOST_TOLD:
        raise TooMany()


def root_of(roots, number):
    while roots[number] != number:
        number = roots[number]
    return number


def groups_of(many, pairs):
    """For each number below many the least one that it hangs together with by these pairs."""
    roots = list(range(many))
    for one, other in pairs:
        near, far = root_of(roots, one), root_of(roots, other)
        roots[max(near, far)] = min(near, far)
    return [root_of(roots, number) for number in range(many)]


def is_number(thing):
    return isinstance(thing, int) and not isinstance(thing, bool)


def is_number_from_one(thing):
    return is_number(thing) and thing >= 1


def is_tuple_of(thing, many):
    return isinstance(thing, tuple) and len(thing) == many


def is_fraction(thing):
    if not is_tuple_of(thing, 2) or not is_number(thing[0]) or not is_number_from_one(thing[1]):
        return False
    return gcd(thing[0], thing[1]) == 1


def is_fraction_above_zero(thing):
    return is_fraction(thing) and thing[0] > 0


def is_angle(thing):
    return is_fraction(thing) and 0 <= thing[0] < thing[1]


def is_point(thing):
    return is_tuple_of(thing, 2) and is_fraction(thing[0]) and is_angle(thing[1])


def is_ascending(things):
    return all([things[at] < things[at + 1] for at in range(len(things) - 1)])


def fits_screw(thing):
    """Whether thing is a SCREW."""
    if is_fraction_above_zero(thing):
        return True
    if not isinstance(thing, tuple) or not thing:
        return False
    return all([_is_stretch(part) for part in thing])


def _is_stretch(thing):
    return is_tuple_of(thing, 2) and is_fraction_above_zero(thing[0]) and is_fraction_above_zero(thing[1])


def is_worn(screw):
    """Whether this SCREW, made of tuples, is a worn one."""
    return isinstance(screw[0], tuple)


def stretches_of(screw):
    """The stretches of a SCREW; a pitch is a worn SCREW of one stretch, as its ends go on."""
    return screw if is_worn(screw) else ((ONE, screw),)


def screw_place(screw, turns):
    """What the SCREW leads to behind turns."""
    stretches = stretches_of(screw)
    place, left = ZERO, turns
    for length, pitch in stretches[:-1]:
        if not is_below(length, left):
            return add(place, multiply(left, pitch))
        place = add(place, multiply(length, pitch))
        left = subtract(left, length)
    return add(place, multiply(left, stretches[-1][1]))


def screw_turns(screw, place):
    """The turns behind which the SCREW leads to place."""
    stretches = stretches_of(screw)
    turns, left = ZERO, place
    for length, pitch in stretches[:-1]:
        reach = multiply(length, pitch)
        if not is_below(reach, left):
            return add(turns, divide(left, pitch))
        turns = add(turns, length)
        left = subtract(left, reach)
    return add(turns, divide(left, stretches[-1][1]))
