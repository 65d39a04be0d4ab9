"""Mats put one behind another: what is left, and the rings that come loose."""

from hookmats.errors import InvalidNumber, InvalidPair, NotSquare
from hookmats.mats import all_mats, check_mat, straight


def check_square(mat):
    """Raise NotSquare for a mat that has not as many pegs below as above."""
    if mat[0] != mat[1]:
        raise NotSquare(mat)


def check_same_pegs(one, other):
    """Raise InvalidPair for two mats with unlike numbers of pegs above, or else below."""
    for told, wanted in zip(one[:2], other[:2]):
        if told != wanted:
            raise InvalidPair((told, wanted))


def _check_pair(one, other):
    if one[1] != other[0]:
        raise InvalidPair((one[1], other[0]))


# Places are numbered through: those above the one mat from 0 to n - 1, those
# in the middle from n to n + m - 1, those below the other one from n + m on.
# So a peg of the one stands at its own number, one of the other n further on.


def _path(one, other, start, in_one):
    """The places of a string from a start on, until it leaves the middle or comes round."""
    n, m, mates = one
    place, path = start, [start]
    while True:
        place = mates[place] if in_one else n + other[2][place - n]
        path.append(place)
        if place == start or not n <= place < n + m:
            return path
        in_one = not in_one


def _count_rings(one, other, paths):
    """How many rings are in the middle, where no string from outside comes."""
    n, m, _ = one
    passed = {place: True for path in paths for place in path}
    rings = 0
    for start in range(n, n + m):
        if start not in passed:
            rings += 1
            for place in _path(one, other, start, True):
                passed[place] = True
    return rings


def put_behind(one, other):
    """The tuple (rings, mat) of two mats that fit, without looking whether they do."""
    n, m, _ = one
    k = other[1]
    paths = [_path(one, other, start, True) for start in range(n)]
    paths = paths + [_path(one, other, start, False) for start in range(n + m, n + m + k)]
    ends = [path[-1] for path in paths]
    mates = tuple([end if end < n else end - m for end in ends])
    return _count_rings(one, other, paths), (n, k, mates)


def joined(one, other):
    """The tuple (rings, mat) of putting the other mat behind the one."""
    check_mat(one)
    check_mat(other)
    _check_pair(one, other)
    return put_behind(one, other)


def joined_all(mats):
    """The tuple (rings, mat) of all mats of a list, put behind one another."""
    for mat in mats:
        check_mat(mat)
    for ahead, behind in zip(mats, mats[1:]):
        _check_pair(ahead, behind)
    if not mats:
        raise InvalidNumber(0)
    rings, whole = 0, mats[0]
    for mat in mats[1:]:
        loose, whole = put_behind(whole, mat)
        rings += loose
    return rings, whole


def check_square_mat(mat):
    """Raise InvalidMat for a tuple that is no mat, NotSquare for a mat that is not square."""
    check_mat(mat)
    check_square(mat)


def _with_rings(ahead, behind):
    """Two tuples (rings, mat) put behind one another, all rings counted."""
    loose, mat = put_behind(ahead[1], behind[1])
    return ahead[0] + behind[0] + loose, mat


def power(mat, times):
    """The tuple (rings, mat) of a square mat put behind itself, so many of them."""
    check_square_mat(mat)
    if times < 1:
        raise InvalidNumber(times)
    # Doubling, since times may be far too large to go one by one.
    result, doubled, left = (0, straight(mat[0])), (0, mat), times
    while left:
        if left & 1:
            result = _with_rings(result, doubled)
        left = left >> 1
        if left:
            doubled = _with_rings(doubled, doubled)
    return result


def comes_again(mat):
    """The tuple (begin, length) of the first powers of a square mat with one mat."""
    check_square_mat(mat)
    first = {}
    current, times = mat, 1
    while current not in first:
        first[current] = times
        current = put_behind(current, mat)[1]
        times += 1
    begin = first[current]
    return begin, times - begin


def is_own_twice(mat):
    """True if the mat of the power 2 is the mat."""
    check_square_mat(mat)
    return put_behind(mat, mat)[1] == mat


def commute(one, other):
    """True if both ways of putting two square mats behind one another are the same."""
    check_mat(one)
    check_mat(other)
    check_square(one)
    check_square(other)
    _check_pair(one, other)
    return put_behind(one, other) == put_behind(other, one)


def fits_between(goal, ahead, behind):
    """The first mat x such that ahead, x and behind have the mat goal, or None."""
    for mat in (goal, ahead, behind):
        check_mat(mat)
    check_same_pegs(goal, (ahead[0], behind[1]))
    for x in all_mats(ahead[1], behind[0]):
        if put_behind(put_behind(ahead, x)[1], behind)[1] == goal:
            return x
    return None
