"""Classes of mats: those with the same halves, and what leads from one mat to another."""

from hookmats.joins import check_same_pegs, check_square_mat, put_behind
from hookmats.mats import all_mats, check_from, check_mat, check_within, lower_half, strings, through, upper_half


def _check_two(one, other):
    check_mat(one)
    check_mat(other)
    check_same_pegs(one, other)


def same_upper(one, other):
    """True if two mats have the same upper half."""
    _check_two(one, other)
    return upper_half(one) == upper_half(other)


def same_lower(one, other):
    """True if two mats have the same lower half."""
    _check_two(one, other)
    return lower_half(one) == lower_half(other)


def same_both(one, other):
    """True if as many strings go through two mats."""
    _check_two(one, other)
    return through(one) == through(other)


def _all_stay(mat, goal):
    """True if each string of a mat that joins two pegs above is one of the goal, too."""
    return all([goal[2][peg] == mate for peg, mate in strings(mat) if mate < mat[0]])


def _first_behind(mat, goal):
    """The first square mat that, put behind a mat, gives the goal, or None."""
    # Whatever is put behind, strings above stay: most mats are told off by this.
    if not _all_stay(mat, goal):
        return None
    for behind in all_mats(mat[1], mat[1]):
        if put_behind(mat, behind)[1] == goal:
            return behind
    return None


def led(one, other):
    """The first (ahead, behind) that, put ahead of the one and behind it, give the other, or None."""
    _check_two(one, other)
    found = {}
    for ahead in all_mats(one[0], one[0]):
        mat = put_behind(ahead, one)[1]
        if mat not in found:
            found[mat] = _first_behind(mat, other)
        if found[mat] is not None:
            return ahead, found[mat]
    return None


def classes(n, many):
    """The ascending list of the lists of the square mats, so many through, with one upper half."""
    check_from(n, 1)
    check_within(many, 0, n)
    found = {}
    for mat in all_mats(n, n):
        if through(mat) == many:
            found.setdefault(upper_half(mat), []).append(mat)
    return sorted(found.values())


def own_twice(n):
    """The ascending list of the square mats of n that, put behind themselves, are themselves."""
    check_from(n, 1)
    return [mat for mat in all_mats(n, n) if put_behind(mat, mat)[1] == mat]


def _between(outer, inner):
    """The mat of a square mat, another one and the first again, put behind one another."""
    return put_behind(put_behind(outer, inner)[1], outer)[1]


def inverses(mat):
    """The ascending list of the square mats x such that mat, x, mat are mat and x, mat, x are x."""
    check_square_mat(mat)
    return [x for x in all_mats(mat[0], mat[0]) if _between(mat, x) == mat and _between(x, mat) == x]
