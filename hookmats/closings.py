"""Mats closed, wholly or in part, and bent until all their pegs stand above."""

from hookmats.errors import InvalidMat
from hookmats.joins import check_square, check_square_mat, power
from hookmats.loops import closed_loops
from hookmats.mats import all_mats, check_from, check_mat, check_within, is_mat, mat_of_pairs, pairs_moved, round_about
from hookmats.polys import plus
from hookmats.sums import check_sum, with_rings


def check_arch(arch):
    """Raise InvalidMat for a tuple that is no mat, or no arch."""
    if not is_mat(arch) or arch[1] != 0:
        raise InvalidMat(arch)


def _rings(mat):
    return len(closed_loops(mat))


def closed_rings(mat):
    """How many rings a square mat comes to if it is closed."""
    check_square_mat(mat)
    return _rings(mat)


def _end(mat, peg, kept):
    """The peg of one of the first columns, those kept, to which a string leads if the others are closed."""
    n, _, mates = mat
    end = mates[peg]
    while end % n >= kept:
        end = mates[(end + n) % (2 * n)]
    return end


def partly_closed(mat, many):
    """The tuple (rings, mat) that comes if the last so many pegs, above and below, are closed."""
    check_square_mat(mat)
    n = mat[0]
    check_within(many, 0, n - 1)
    kept = n - many
    ends = [_end(mat, peg, kept) for peg in list(range(kept)) + list(range(n, n + kept))]
    rings = [loop for loop in closed_loops(mat) if all([peg % n >= kept for peg in loop])]
    return len(rings), (kept, kept, tuple([end if end < n else end - many for end in ends]))


def trace(told):
    """The polynomial of a sum of square mats, each exchanged for w to the power of its rings, closed."""
    check_sum(told)
    for mat, _ in told:
        check_square(mat)
    whole = ()
    for mat, poly in told:
        whole = plus(whole, with_rings(poly, _rings(mat)))
    return whole


def rings_row(n):
    """How many square mats of n come, closed, to each number of rings from 0 to n."""
    check_from(n, 1)
    row = [0] * (n + 1)
    for mat in all_mats(n, n):
        row[_rings(mat)] += 1
    return row


def _with_above(mat, n):
    """The mat with n of its pegs above: round about all stay in their order."""
    pegs = mat[0] + mat[1]
    places = dict(zip(round_about(mat[0], mat[1]), round_about(n, pegs - n)))
    return mat_of_pairs(n, pegs - n, pairs_moved(mat, places))


def bent(mat, many):
    """The mat in which the last so many pegs below stand above, behind the others, the last one first."""
    check_mat(mat)
    check_within(many, 0, mat[1])
    return _with_above(mat, mat[0] + many)


def arch_of(mat):
    """The arch that a mat comes to if all its pegs below are bent."""
    check_mat(mat)
    return _with_above(mat, mat[0] + mat[1])


def unbent(arch, n):
    """The mat with n pegs above that is bent to an arch."""
    check_arch(arch)
    check_within(n, 0, arch[0])
    return _with_above(arch, n)


def closed_power(mat, times):
    """How many rings a power of a square mat comes to, closed, its loose ones added."""
    rings, whole = power(mat, times)
    return rings + _rings(whole)
