"""The killers: sums of square mats, with fractions, that each hook makes 0."""

from hookmats.joins import put_behind
from hookmats.mats import all_mats, beside, check_from, check_within, hook, straight
from hookmats.polys import at_prime, check_prime, divided, fraction, times, u_row
from hookmats.remainders import first_place, reduced
from hookmats.sums import multiply, sum_of, with_rings
from hookmats.words import value_of


# The killer of n with a string beside it, times U n and with this sum put behind,
# is that of n + 1 times U n: so it grows by few mats, and only the last step has
# fractions.


def _grower(n):
    """The sum of the straight mat of n + 1, U n times, and all rows of hooks down from the last one."""
    row, told = u_row(n + 1), []
    for last in range(n + 1):
        mat = value_of(n + 1, tuple(range(n - 1, last - 1, -1)))[1]
        sign = -1 if (n - last) & 1 else 1
        told.append((mat, times((sign,), row[last])))
    return tuple(sorted(told))


def _with_string(told):
    """A sum with a string on the right of each of its mats."""
    return tuple(sorted([(beside(mat, straight(1)), poly) for mat, poly in told]))


def killer(n):
    """The ascending list of the tuples (mat, fraction) of the killer of n."""
    check_from(n, 1)
    whole, bottom = sum_of(straight(1)), (1,)
    for size in range(1, n):
        whole = multiply(_with_string(whole), _grower(size))
        bottom = times(bottom, u_row(size + 1)[size])
    return [(mat, fraction(poly, bottom)) for mat, poly in whole]


def _is_product(told, one, other):
    """True if a fraction is the product of two others."""
    # Multiplied out: no common factors are to be looked for in what may be very long.
    return times(told[0], times(one[1], other[1])) == times(told[1], times(one[0], other[0]))


def is_killed(n, told):
    """True if a list of tuples (mat, fraction) of mats of n is 0 with each hook ahead and each behind."""
    # What all hooks make 0 is a multiple of the killer, for there is but one
    # whose straight mat has 1: so it has the killer's mats, or none at all.
    whole = killer(n)
    if not told:
        return True
    if [mat for mat, _ in told] != [mat for mat, _ in whole]:
        return False
    share = dict(told)[straight(n)]
    products = [_is_product(one[1], share, other[1]) for one, other in zip(told, whole)]
    return share[0] != () and all(products)


def binomial(n, r):
    """U (n - 1) times .. U (n - r), divided by U 0 times .. U (r - 1)."""
    check_from(n, 1)
    check_within(r, 0, n)
    row, whole = u_row(n), (1,)
    for at in range(r):
        whole = divided(times(whole, row[n - 1 - at]), row[at])
    return whole


def _straight_last(n):
    """All square mats of n, the straight one behind the others."""
    return [mat for mat in all_mats(n, n) if mat != straight(n)] + [straight(n)]


def _rows_ahead(mats, ahead, number, prime):
    """For each mat that comes if a hook is put ahead of mats: how many times each of these makes it."""
    found = {}
    for place, mat in enumerate(mats):
        rings, whole = put_behind(ahead, mat)
        row = found.setdefault(whole, [0] * len(mats))
        row[place] = at_prime(with_rings((1,), rings), number, prime)
    return list(found.values())


def killer_at(n, number, prime):
    """The ascending list of the tuples (mat, remainder) of the killer where w is a number, or None."""
    check_from(n, 1)
    check_prime(prime)
    mats, rows = _straight_last(n), []
    # What all hooks ahead make 0, the straight mat having 1, those behind make 0, too.
    for index in range(n - 1):
        rows = rows + _rows_ahead(mats, hook(n, index), number, prime)
    found = [(straight(n), 1)]
    for row in reduced(rows, prime):
        place = first_place(row)
        if place == len(mats) - 1:
            return None
        found.append((mats[place], -row[-1] % prime))
    return sorted([(mat, remainder) for mat, remainder in found if remainder])


def trace_of_killer(n):
    """The fraction that the killer of n comes to if its mats are closed, rings being w."""
    # A string more multiplies it by w, the hook of the step to the next killer
    # takes away the one ahead: it goes on as the row U does.
    check_from(n, 1)
    return u_row(n + 1)[n], (1,)
