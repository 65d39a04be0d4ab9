"""Walks: half mats told step by step, and mats told by the walks of both halves."""

from math import comb

from hookmats.errors import InvalidPair, InvalidWalk
from hookmats.mats import check_from, check_mat, check_within, mat_of_pairs
from hookmats.pairings import check_half


def _sums(told):
    """The sums of all beginnings."""
    row = [0]
    for step in told:
        row.append(row[-1] + step)
    return row


def is_walk(told):
    """True if a tuple of integers is a walk."""
    return all([step in (1, -1) for step in told]) and min(_sums(told)) >= 0


def check_walk(walk):
    """Raise InvalidWalk for a tuple of integers that is no walk."""
    if not is_walk(walk):
        raise InvalidWalk(walk)


def _upper_walk(mat):
    n, _, mates = mat
    return tuple([1 if mates[peg] > peg else -1 for peg in range(n)])


def _lower_walk(mat):
    n, m, mates = mat
    return tuple([-1 if n <= mates[peg] < peg else 1 for peg in range(n, n + m)])


def walk_of(half):
    """The walk of a half mat."""
    check_half(half)
    return _upper_walk(half)


def _ends(walk, first):
    """The strings between pegs numbered from a first one on, as a walk tells, and the pegs of those through."""
    begun, pairs = [], []
    for peg, step in enumerate(walk, start=first):
        if step == 1:
            begun.append(peg)
        else:
            pairs.append((begun.pop(), peg))
    return pairs, begun


def _mat_of(one, other):
    n, m = len(one), len(other)
    above, leaving = _ends(one, 0)
    below, coming = _ends(other, n)
    return mat_of_pairs(n, m, above + below + list(zip(leaving, coming)))


def half_of(walk):
    """The half mat of a walk."""
    check_walk(walk)
    return _mat_of(walk, (1,) * sum(walk))


# Of all rows of steps from one sum to another those are left out that come below
# 0. From the first -1 on turned over, they are all the rows from the first sum
# to the one that lies as far below -1 as the other one above it.


def _rows(steps, rise):
    """How many rows of so many steps add up to a rise."""
    if abs(rise) > steps or (steps + rise) & 1:
        return 0
    return comb(steps, (steps + rise) // 2)


def _ways(start, steps, end):
    """In how many ways so many steps lead from one sum to another, from -1 on, none below 0."""
    return _rows(steps, end - start) - _rows(steps, end + start + 2)


def how_many_walks(n, k):
    """How many walks of n end at k."""
    check_from(n, 0)
    check_from(k, 0)
    return _ways(0, n, k)


def nth_walk(n, k, number):
    """The walk with an index in the ascending list of the walks of n that end at k."""
    # Counted first, so that a wrong n or k is raised ahead of a wrong number.
    many = how_many_walks(n, k)
    check_within(number, 0, many - 1)
    walk, now, ahead = (), 0, number
    for left in reversed(range(n)):
        downwards = _ways(now - 1, left, k)
        step = -1 if ahead < downwards else 1
        if step == 1:
            ahead -= downwards
        walk = walk + (step,)
        now += step
    return walk


def rank_walk(walk):
    """The index of a walk among those with its n and end."""
    check_walk(walk)
    n, k, ahead = len(walk), sum(walk), 0
    for at, now in enumerate(_sums(walk)[:n]):
        if walk[at] == 1:
            ahead += _ways(now - 1, n - at - 1, k)
    return ahead


def pair_of(mat):
    """The tuple of the walks of the upper and the lower half of a mat."""
    check_mat(mat)
    return _upper_walk(mat), _lower_walk(mat)


def mat_of(one, other):
    """The mat whose halves have these two walks."""
    check_walk(one)
    check_walk(other)
    if sum(one) != sum(other):
        raise InvalidPair((sum(one), sum(other)))
    return _mat_of(one, other)


def sums_along(walk):
    """The list of the sums of all beginnings of a walk, the empty and the whole one, too."""
    check_walk(walk)
    return _sums(walk)


def returns(walk):
    """How many beginnings of a walk, but the empty one, add up to 0."""
    check_walk(walk)
    return _sums(walk)[1:].count(0)


def returns_row(h):
    """How many walks of 2 h that end at 0 have each number of returns from 0 to h."""
    check_from(h, 0)
    # A step up begins the way to each return. Without these, the rest comes to minus
    # the number of returns at its end, not earlier: seen from there, a step up, and
    # then any walk that ends one below this number.
    return [1] if h == 0 else [0] + [_ways(0, 2 * h - many - 1, many - 1) for many in range(1, h + 1)]
