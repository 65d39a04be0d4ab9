"""Polynomials of the ring's worth, and fractions of them."""

from math import gcd

from hookmats.errors import InvalidPoly, InvalidPrime, NoDivisor
from hookmats.mats import check_from

PRIMES = (2, 3, 5, 7, 11, 13, 17, 19, 23, 29, 31, 37, 41, 43, 47, 53, 59, 61, 67, 71, 73, 79, 83, 89, 97)


def is_poly(told):
    """True if a tuple of integers is a polynomial."""
    return not told or told[-1] != 0


def check_poly(told):
    """Raise InvalidPoly for a tuple of integers that is no polynomial."""
    if not is_poly(told):
        raise InvalidPoly(told)


def check_prime(prime):
    """Raise InvalidPrime for an integer that is no prime from 2 to 97."""
    if prime not in PRIMES:
        raise InvalidPrime(prime)


def _check_two(one, other):
    check_poly(one)
    check_poly(other)


def _check_divisor(poly):
    if not poly:
        raise NoDivisor(())


def _poly_of(row):
    """The polynomial of a list of coefficients, of which the last ones may be 0."""
    many = len(row)
    while many and row[many - 1] == 0:
        many -= 1
    return tuple(row[:many])


def _take_away(row, factor, poly, power):
    """Take a polynomial, times a factor and a power of w, from a list of coefficients."""
    for place, coefficient in enumerate(poly):
        row[power + place] -= factor * coefficient


def plus(one, other):
    """The sum of two polynomials."""
    _check_two(one, other)
    row = list(one) + [0] * (len(other) - len(one))
    _take_away(row, -1, other, 0)
    return _poly_of(row)


def times(one, other):
    """The product of two polynomials."""
    _check_two(one, other)
    row = [0] * (len(one) + len(other))
    for power, coefficient in enumerate(one):
        _take_away(row, -coefficient, other, power)
    return _poly_of(row)


def divided(one, other):
    """The polynomial that, multiplied by the other one, is the one, or None."""
    _check_two(one, other)
    _check_divisor(other)
    row = list(one)
    quotient = [0] * (len(one) - len(other) + 1)
    for power in reversed(range(len(quotient))):
        factor, left = divmod(row[power + len(other) - 1], other[-1])
        if left:
            return None
        quotient[power] = factor
        _take_away(row, factor, other, power)
    return None if any(row) else tuple(quotient)


def at(one, number):
    """The value of a polynomial at an integer."""
    check_poly(one)
    value = 0
    for coefficient in reversed(one):
        value = value * number + coefficient
    return value


def at_prime(one, number, prime):
    """The value of a polynomial at an integer, as a remainder of a prime."""
    check_poly(one)
    check_prime(prime)
    value = 0
    for coefficient in reversed(one):
        value = (value * number + coefficient) % prime
    return value


def u_row(many):
    """The list of U 0 to U many less 1."""
    check_from(many, 0)
    row = []
    ahead, poly = (), (1,)
    for _ in range(many):
        row.append(poly)
        ahead, poly = poly, plus((0,) + poly, times((-1,), ahead))
    return row


def _content(poly):
    """The greatest integer that divides all coefficients, 0 of 0."""
    greatest = 0
    for coefficient in poly:
        greatest = gcd(greatest, coefficient)
    return greatest


def _primitive(poly):
    """A polynomial without its content, the last coefficient above 0."""
    if not poly:
        return ()
    divisor = _content(poly) if poly[-1] > 0 else -_content(poly)
    return tuple([coefficient // divisor for coefficient in poly])


def _rest(one, other):
    """What is left of a multiple of the one, shorter than the other, by multiples of this."""
    rest = one
    while len(rest) >= len(other):
        # No more than this factor is wanted, so that the coefficients stay small.
        shared = gcd(rest[-1], other[-1])
        row = [other[-1] // shared * coefficient for coefficient in rest]
        _take_away(row, rest[-1] // shared, other, len(rest) - len(other))
        rest = _poly_of(row)
    return rest


def common(one, other):
    """The greatest common divisor with integers, its last coefficient above 0, () of two 0."""
    _check_two(one, other)
    shared = gcd(_content(one), _content(other))
    ahead, behind = _primitive(one), _primitive(other)
    while behind:
        ahead, behind = behind, _primitive(_rest(ahead, behind))
    return times((shared,) if shared else (), ahead)


def fraction(top, bottom):
    """The fraction (top, bottom) of two polynomials, without a common factor."""
    _check_two(top, bottom)
    _check_divisor(bottom)
    shared = common(top, bottom)
    if bottom[-1] < 0:
        shared = times((-1,), shared)
    return divided(top, shared), divided(bottom, shared)


def fraction_plus(one, other):
    """The sum of two fractions."""
    # Of the common bottom only what both bottoms share can have a factor in
    # common with the top: to look for it there alone keeps polynomials short.
    shared = common(one[1], other[1])
    left, right = divided(one[1], shared), divided(other[1], shared)
    top = plus(times(one[0], right), times(other[0], left))
    top, bottom = fraction(top, shared)
    return top, times(bottom, times(left, right))


def fraction_times(one, other):
    """The product of two fractions."""
    # Each top has common factors with the bottom of the other fraction alone.
    left, right = fraction(one[0], other[1]), fraction(other[0], one[1])
    return times(left[0], right[0]), times(left[1], right[1])
