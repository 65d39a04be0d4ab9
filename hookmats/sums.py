"""Sums of mats, each with a polynomial of the ring's worth."""

from hookmats.errors import InvalidPair, InvalidSum
from hookmats.joins import put_behind
from hookmats.mats import check_mat, is_mat, upside_down
from hookmats.polys import at, check_poly, is_poly, plus, times
from hookmats.words import value_of


def is_sum(told):
    """True if a tuple of tuples (tuple (integer, integer, tuple of integers), tuple of integers) is a sum."""
    for mat, poly in told:
        if not is_mat(mat) or not is_poly(poly) or poly == () or mat[:2] != told[0][0][:2]:
            return False
    return all([ahead[0] < behind[0] for ahead, behind in zip(told, told[1:])])


def check_sum(told):
    """Raise InvalidSum for a tuple that is no sum."""
    if not is_sum(told):
        raise InvalidSum(told)


def _check_two(one, other):
    check_sum(one)
    check_sum(other)


def _pegs(told):
    """The tuple (n, m) of a sum that is not 0."""
    return told[0][0][:2]


def _sum_of_dict(found):
    """The sum of the polynomials of mats, which may be 0."""
    return tuple(sorted([(mat, poly) for mat, poly in found.items() if poly]))


def _add_to(found, mat, poly):
    found[mat] = plus(found.get(mat, ()), poly)


def with_rings(poly, rings):
    """A polynomial multiplied by w once for each ring."""
    return times(poly, (0,) * rings + (1,))


def sum_of(mat):
    """The sum with a mat alone, 1 times."""
    check_mat(mat)
    return ((mat, (1,)),)


def add(one, other):
    """The sum of two sums."""
    _check_two(one, other)
    if one and other and _pegs(one) != _pegs(other):
        raise InvalidPair((_pegs(one), _pegs(other)))
    found = {}
    for mat, poly in one + other:
        _add_to(found, mat, poly)
    return _sum_of_dict(found)


def _all_behind(mat, told):
    """Each mat that comes if those of a sum are put behind a mat, with its polynomial."""
    found = {}
    for behind, poly in told:
        rings, whole = put_behind(mat, behind)
        _add_to(found, whole, with_rings(poly, rings))
    return found


def multiply(one, other):
    """The product of two sums: each mat of the other put behind each of the one."""
    _check_two(one, other)
    if not one or not other:
        return ()
    m, k = _pegs(one)[1], _pegs(other)[0]
    if m != k:
        raise InvalidPair((m, k))
    found = {}
    for mat, poly in one:
        # Far fewer mats come than are put behind: gathered first, they are multiplied but once.
        for whole, gathered in _all_behind(mat, other).items():
            _add_to(found, whole, times(poly, gathered))
    return _sum_of_dict(found)


def scaled(told, poly):
    """A sum with each of its polynomials multiplied by a polynomial."""
    check_sum(told)
    check_poly(poly)
    return tuple([(mat, times(own, poly)) for mat, own in told]) if poly else ()


def part(told, mat):
    """The polynomial of a mat in a sum, () if it has none."""
    check_sum(told)
    check_mat(mat)
    return dict(told).get(mat, ())


def flipped(told):
    """A sum with each of its mats upside down."""
    check_sum(told)
    return tuple(sorted([(upside_down(mat), poly) for mat, poly in told]))


def word_sum(n, word):
    """The sum of the value of a word, its rings as powers of w."""
    rings, mat = value_of(n, word)
    return ((mat, with_rings((1,), rings)),)


def at_worth(told, number):
    """The ascending list of the tuples (mat, integer) with the values at an integer, but 0."""
    check_sum(told)
    values = [(mat, at(poly, number)) for mat, poly in told]
    return [(mat, value) for mat, value in values if value]
