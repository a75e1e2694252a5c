"""Numbers with a root: (a, b, c) is worth a and b times the root's square root together, by c."""

from cutexchange.errors import NoNumber

ZERO = (0, 0, 1)
ONE = (1, 0, 1)

GREATEST_ROOT = 99
# A root has two figures at most, so the squares of the primes below 10 are all that could divide it.
SQUARES = (4, 9, 25, 49)


def is_whole(thing):
    """Whether a thing is a whole number: True and False are none."""
    return isinstance(thing, int) and not isinstance(thing, bool)


def is_root(thing):
    """Whether a thing is a root: 0, or from 2 to 99 without a square above 1 that divides it."""
    if not is_whole(thing):
        return False
    if thing == 0:
        return True
    return 2 <= thing <= GREATEST_ROOT and all(thing % square != 0 for square in SQUARES)


def must_be_from_to(thing, least, most):
    """Refuses what is no whole number from the least to the most that is let."""
    if not is_whole(thing) or not least <= thing <= most:
        raise NoNumber(f"a whole number from {least} to {most} is due")


def number_of(root, a, b, c):
    """The number worth a and b times the root's square root together, by c."""
    if not (is_whole(a) and is_whole(b) and is_whole(c)):
        raise NoNumber("a number is made of whole numbers")
    if c == 0:
        raise NoNumber("the bottom of a number is not 0")
    if b != 0 and root == 0:
        raise NoNumber("a number of the root 0 has no root part")
    return in_lowest_terms(a, b, c)


def is_number(root, thing):
    """Whether a thing, of whatever kind, is a number of the root."""
    if not isinstance(thing, tuple) or len(thing) != 3:
        return False
    if not all(is_whole(part) for part in thing):
        return False
    a, b, c = thing
    if c < 1 or (b != 0 and root == 0):
        return False
    return divisor_of_all(a, b, c) == 1


def plus(root, one, other):
    """The sum of two numbers of a root."""
    a, b, c = one
    d, e, f = other
    return in_lowest_terms(a * f + d * c, b * f + e * c, c * f)


def minus(root, one, other):
    """The first number less the second."""
    a, b, c = one
    d, e, f = other
    return in_lowest_terms(a * f - d * c, b * f - e * c, c * f)


def times(root, one, other):
    """The product of two numbers of a root."""
    a, b, c = one
    d, e, f = other
    return in_lowest_terms(a * d + root * b * e, a * e + b * d, c * f)


def over(root, one, other):
    """The first number by the second, which is not 0."""
    a, b, c = one
    d, e, f = other
    # Top and bottom are taken times d less e roots, which leaves no root in the bottom;
    # it is 0 for the worth 0 alone, since no square above 1 divides the root.
    bottom = d * d - root * e * e
    if bottom == 0:
        raise NoNumber("no number is taken by 0")
    return in_lowest_terms(f * (a * d - root * b * e), f * (b * d - a * e), c * bottom)


def less(root, one, other):
    """Whether the first number is less than the second."""
    a, b, c = one
    d, e, f = other
    return is_below_zero(root, a * f - d * c, b * f - e * c)


def floor_of(root, one):
    """The greatest whole number that is not above a number."""
    a, b, c = one
    # A whole bottom lets the top be brought down to a whole number first.
    return (a + floor_of_roots(root, b)) // c


def simplest(root, one, other):
    """The fraction above the first number and below the second with the least bottom, then the least."""
    if not less(root, one, other):
        raise NoNumber("the first number is not less than the second")
    # While no whole number lies between low and high, both lie from one whole number to the next.
    # The simplest fraction between their rests is 1 over the simplest between 1 over these.
    floors = []
    low, high = one, other
    first = floor_of(root, low)
    while high is not None and not less(root, (first + 1, 0, 1), high):
        floors.append(first)
        low, high = turned_rests(root, low, high, first)
        first = floor_of(root, low)
    return put_together(floors, first + 1)


def turned_rests(root, low, high, first):
    """The bounds of 1 over what lies between low and high less first: the upper one None where there is none."""
    low_rest = minus(root, low, (first, 0, 1))
    high_rest = minus(root, high, (first, 0, 1))
    upper = None if low_rest == ZERO else over(root, ONE, low_rest)
    return over(root, ONE, high_rest), upper


def put_together(floors, last):
    """The fraction that begins with the first floor and 1 over the next one, and so on up to last."""
    top, bottom = last, 1
    for first in reversed(floors):
        top, bottom = first * top + bottom, top
    return (top, 0, bottom)


def is_below_zero(root, a, b):
    """Whether a and b times the root's square root together are below 0."""
    if a < 0:
        return b <= 0 or root * b * b < a * a
    return b < 0 and a * a < root * b * b


def floor_of_roots(root, b):
    """The greatest whole number that is not above b times the root's square root."""
    floor = floor_of_square_root(root * b * b)
    # No root but 0 is a square, so below 0 this is never a whole number itself.
    return floor if b >= 0 else -floor - 1


def floor_of_square_root(square):
    """The greatest whole number whose square is not above the one handed in, which is from 0 on."""
    if square == 0:
        return 0
    # The guess must be too great at first: only then does it sink until it is right.
    guess = 1 << ((square.bit_length() + 1) // 2)
    better = (guess + square // guess) // 2
    while better < guess:
        guess = better
        better = (guess + square // guess) // 2
    return guess


def in_lowest_terms(a, b, c):
    """The one tuple of the worth that a, b and c have, c not 0."""
    divisor = divisor_of_all(a, b, c)
    if c < 0:
        divisor = -divisor
    return (a // divisor, b // divisor, c // divisor)


def divisor_of_all(a, b, c):
    """The greatest whole number that divides all three, c not 0."""
    return divisor_of_both(divisor_of_both(c, a), b)


def divisor_of_both(one, other):
    """The greatest whole number that divides both, which are not both 0."""
    one, other = abs(one), abs(other)
    while other != 0:
        one, other = other, one % other
    return one


def least_that_both_divide(one, other):
    """The least whole number above 0 that both divide, which are from 1 on."""
    return one // divisor_of_both(one, other) * other
