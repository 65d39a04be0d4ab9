"""Half mats, their pairings, and the tables of these."""

from math import comb

from hookmats.errors import InvalidMat, InvalidNumber
from hookmats.joins import check_same_pegs, put_behind
from hookmats.mats import all_mats, check_from, check_within, through, upside_down
from hookmats.polys import at_prime, divided, plus, times
from hookmats.remainders import nulls, reduced
from hookmats.sums import with_rings


def _check_numbers(n, k):
    check_from(n, 1)
    check_within(k, 0, n)
    if (n - k) & 1:
        raise InvalidNumber(k)


def check_half(mat):
    """Raise InvalidMat for a tuple that is no mat, or no half mat."""
    if through(mat) != mat[1]:
        raise InvalidMat(mat)


def half_mats(n, k):
    """The ascending list of the mats with n pegs above and k below, all of these going through."""
    _check_numbers(n, k)
    return [mat for mat in all_mats(n, k) if through(mat) == k]


def how_many_halves(n, k):
    """The number of half mats with n pegs above and k below."""
    _check_numbers(n, k)
    # Of all ways to choose the right ends, those are left out in which
    # somewhere more strings end than have begun: as many as have one less.
    right = (n - k) // 2
    return comb(n, right) - (comb(n, right - 1) if right else 0)


def _pairing(one, other):
    rings, mat = put_behind(upside_down(one), other)
    k, _, mates = mat
    return with_rings((1,), rings) if all([mate >= k for mate in mates[:k]]) else ()


def pairing(one, other):
    """The pairing of two half mats: w to the power of the rings, () if not all strings go through."""
    check_half(one)
    check_half(other)
    check_same_pegs(one, other)
    return _pairing(one, other)


def pairing_table(n, k):
    """The list of lists of the pairings of all half mats with n pegs above and k below."""
    halves = half_mats(n, k)
    return [[_pairing(one, other) for other in halves] for one in halves]


def _eliminated(rows, ahead):
    """The rows of a table without the first row and column, whose determinant tells that of the table."""
    corner = rows[0]
    return [
        [
            divided(plus(times(corner[0], row[place]), times((-1,), times(row[0], corner[place]))), ahead)
            for place in range(1, len(row))
        ]
        for row in rows[1:]
    ]


def determinant(n, k):
    """The determinant of the table of pairings, a polynomial."""
    rows, ahead = pairing_table(n, k), (1,)
    # No corner is 0, for each half mat has more rings with itself than with any
    # other one. What a step multiplies too often, the next step divides by.
    while len(rows) > 1:
        corner = rows[0][0]
        rows = _eliminated(rows, ahead)
        ahead = corner
    return rows[0][0]


def told_determinant(n, k):
    """The list of the tuples (j, times) of the product that is the determinant."""
    _check_numbers(n, k)
    return [(j, how_many_halves(n, k + 2 * j)) for j in range(1, (n - k) // 2 + 1)]


def _table_at(n, k, number, prime):
    """The table of pairings by remainders of a prime, w being a number."""
    return [[at_prime(poly, number, prime) for poly in row] for row in pairing_table(n, k)]


def rank_at(n, k, number, prime):
    """The rank of the table of pairings by remainders of a prime, w being a number."""
    return len(reduced(_table_at(n, k, number, prime), prime))


def nulls_at(n, k, number, prime):
    """The rows, in their reduced form, of which all that the table makes 0 are sums of multiples."""
    return nulls(_table_at(n, k, number, prime), prime)
