"""The worth of a ring being a number by a prime: which killers are there, and which ranks tables have."""

from hookmats.closings import closed_rings
from hookmats.joins import put_behind
from hookmats.mats import all_mats, check_from, upside_down
from hookmats.pairings import how_many_halves, rank_at
from hookmats.polys import at_prime, check_prime
from hookmats.remainders import reduced
from hookmats.sums import with_rings


def _check(n, prime):
    check_from(n, 1)
    check_prime(prime)


def _u_at(many, number, prime):
    """The values of U 0 to U many less 1 at a number, as remainders of a prime."""
    row = []
    ahead, value = 0, 1
    for _ in range(many):
        row.append(value)
        ahead, value = value, (value * number - ahead) % prime
    return row


def first_zero(number, prime):
    """The least l from 1 on such that U l is 0 at a number, by remainders of a prime."""
    check_prime(prime)
    return _u_at(prime + 1, number, prime).index(0)


def barred(n, number, prime):
    """The ascending list of the sizes from 1 to n of which there is no killer."""
    _check(n, prime)
    # A killer is there if none of its size's binomials is 0 ([9]). They come of
    # those of the size ahead without a division, which remainders would not allow:
    # U (a + b - 1) is U a times U (b - 1), less U (a - 1) times U (b - 2).
    values, row, found = [0] + _u_at(n, number, prime), [1], []
    for size in range(1, n + 1):
        between = [
            (values[r + 1] * row[r] - values[size - r - 1] * row[r - 1]) % prime for r in range(1, size)
        ]
        row = [1] + between + [1]
        if 0 in row:
            found.append(size)
    return found


def _through_numbers(n):
    """How many strings may go through a mat of n, ascending."""
    return list(range(n & 1, n + 1, 2))


def _ranks(n, number, prime):
    return [(k, rank_at(n, k, number, prime)) for k in _through_numbers(n)]


def ranks(n, number, prime):
    """The list of the tuples (k, rank) of the tables of pairings, k ascending."""
    _check(n, prime)
    return _ranks(n, number, prime)


def left_size(n, number, prime):
    """The sum of the squares of the ranks."""
    _check(n, prime)
    return sum([rank * rank for _, rank in _ranks(n, number, prime)])


def is_whole(n, number, prime):
    """True if each rank is the number of half mats."""
    _check(n, prime)
    return all([rank == how_many_halves(n, k) for k, rank in _ranks(n, number, prime)])


def _all_rings(one, other):
    """The rings of the other mat upside down put behind the one and closed, with the loose ones."""
    rings, mat = put_behind(one, upside_down(other))
    return rings + closed_rings(mat)


def closed_rank(n, number, prime):
    """The rank of the table of the worths of each two square mats, put behind one another and closed."""
    _check(n, prime)
    mats = all_mats(n, n)
    rows = [[at_prime(with_rings((1,), _all_rings(one, other)), number, prime) for other in mats] for one in mats]
    return len(reduced(rows, prime))
