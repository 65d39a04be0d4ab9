"""Mats: pegs above and below, joined by strings that do not cross."""

from math import comb

from hookmats.errors import InvalidHook, InvalidMat, InvalidNumber


def check_mat(mat):
    """Raise InvalidMat for a tuple that is no mat."""
    if not is_mat(mat):
        raise InvalidMat(mat)


def check_from(number, least):
    """Raise InvalidNumber for a number below the least one."""
    if number < least:
        raise InvalidNumber(number)


def check_within(number, least, most):
    """Raise InvalidNumber for a number that is not from the least one to the most one."""
    if not least <= number <= most:
        raise InvalidNumber(number)


def round_about(n, m):
    """The pegs in the order in which they stand round about."""
    return list(range(n)) + list(range(n + m - 1, n - 1, -1))


def _are_mates(mates):
    many = len(mates)
    return all([0 <= mate < many and mate != peg and mates[mate] == peg for peg, mate in enumerate(mates)])


def _none_cross(n, m, mates):
    # Strings that do not cross end round about as brackets do: the last one begun ends first.
    begun = []
    for peg in round_about(n, m):
        if begun and begun[-1] == mates[peg]:
            begun.pop()
        else:
            begun.append(peg)
    return not begun


def is_mat(told):
    """True if a tuple (integer, integer, tuple of integers) is a mat."""
    n, m, mates = told
    if n < 0 or m < 0 or n + m == 0 or len(mates) != n + m:
        return False
    return _are_mates(mates) and _none_cross(n, m, mates)


def mat_of_pairs(n, m, pairs):
    """The mat whose strings join the pegs of each pair."""
    mates = [0] * (n + m)
    for peg, mate in pairs:
        mates[peg] = mate
        mates[mate] = peg
    return (n, m, tuple(mates))


def straight(n):
    """The mat of n in which each peg above is joined with the one below it."""
    check_from(n, 1)
    return mat_of_pairs(n, n, [(peg, n + peg) for peg in range(n)])


def hook(n, i):
    """The mat of n that joins i with i + 1, above and below, and is straight else."""
    check_from(n, 1)
    if not 0 <= i < n - 1:
        raise InvalidHook(i)
    pairs = [(peg, n + peg) for peg in range(n) if peg not in (i, i + 1)]
    return mat_of_pairs(n, n, pairs + [(i, i + 1), (n + i, n + i + 1)])


def _ways(many):
    """In how many ways so many pegs, an even number, are joined without crossing."""
    half = many // 2
    return comb(2 * half, half) // (half + 1)


def how_many(n, m):
    """The number of mats with n pegs above and m below."""
    check_from(n, 0)
    check_from(m, 0)
    return 0 if n + m == 0 or (n + m) & 1 else _ways(n + m)


# Mats are listed by choosing, again and again, a mate for the least peg that
# has none yet: lesser mates first gives the mats ascending. A string parts the
# pegs that have no mate into regions, which no later string can join.


def _parted(region, at, to):
    """The regions that are left if the pegs at two places of a region are joined."""
    low, high = min(at, to), max(at, to)
    parts = [region[low + 1:high], region[:low] + region[high + 1:]]
    return [part for part in parts if part]


def _choices(regions):
    """For each mate that the least peg may have, ascending: the peg, the mate, the regions left."""
    region = min(regions, key=min)
    others = [kept for kept in regions if kept != region]
    peg = min(region)
    at = region.index(peg)
    found = []
    for mate in sorted(region):
        to = region.index(mate)
        if (to - at) & 1:
            found.append((peg, mate, others + _parted(region, at, to)))
    return found


def _ways_of(regions):
    """In how many ways the pegs of regions can be joined."""
    many = 1
    for region in regions:
        many *= _ways(len(region))
    return many


def _joinings(regions):
    """All ways to join the pegs of regions, each a list of pairs, in the order of the mats."""
    if not regions:
        return [[]]
    found = []
    for peg, mate, left in _choices(regions):
        found.extend([[(peg, mate)] + pairs for pairs in _joinings(left)])
    return found


def all_mats(n, m):
    """The ascending list of the mats with n pegs above and m below."""
    if how_many(n, m) == 0:
        return []
    return [mat_of_pairs(n, m, pairs) for pairs in _joinings([round_about(n, m)])]


def nth(n, m, number):
    """The mat with an index in all_mats(n, m)."""
    # Counted first, so that a wrong n or m is raised ahead of a wrong number.
    many = how_many(n, m)
    check_within(number, 0, many - 1)
    regions, pairs, ahead = [round_about(n, m)], [], number
    while regions:
        for peg, mate, left in _choices(regions):
            skipped = _ways_of(left)
            if ahead < skipped:
                break
            ahead -= skipped
        pairs.append((peg, mate))
        regions = left
    return mat_of_pairs(n, m, pairs)


def rank(mat):
    """The index of a mat in the list of all with its pegs above and below."""
    check_mat(mat)
    n, m, mates = mat
    regions, ahead = [round_about(n, m)], 0
    while regions:
        for peg, mate, left in _choices(regions):
            if mates[peg] == mate:
                break
            ahead += _ways_of(left)
        regions = left
    return ahead


def pairs_moved(mat, places):
    """The strings of a mat as pairs, each peg exchanged for its new place."""
    return [(places[peg], places[mate]) for peg, mate in _strings(mat)]


def upside_down(mat):
    """A mat with above and below exchanged, left staying left."""
    check_mat(mat)
    return _upside_down(mat)


def _upside_down(mat):
    n, m, _ = mat
    places = list(range(m, m + n)) + list(range(m))
    return mat_of_pairs(m, n, pairs_moved(mat, places))


def left_right(mat):
    """A mat with left and right exchanged."""
    check_mat(mat)
    n, m, _ = mat
    places = list(range(n - 1, -1, -1)) + list(range(n + m - 1, n - 1, -1))
    return mat_of_pairs(n, m, pairs_moved(mat, places))


def turned(mat):
    """A mat with each string moved to the pegs directly ahead of its own, round about."""
    check_mat(mat)
    n, m, _ = mat
    around = round_about(n, m)
    places = {peg: around[at - 1] for at, peg in enumerate(around)}
    return mat_of_pairs(n, m, pairs_moved(mat, places))


def beside(one, other):
    """The mat with the pegs of the one on the left of those of the other."""
    check_mat(one)
    check_mat(other)
    n, m = one[0] + other[0], one[1] + other[1]
    left = list(range(one[0])) + list(range(n, n + one[1]))
    right = list(range(one[0], n)) + list(range(n + one[1], n + m))
    return mat_of_pairs(n, m, pairs_moved(one, left) + pairs_moved(other, right))


def _pegs_through(mat):
    """The pegs above whose strings go through, from the left."""
    n, _, mates = mat
    return [peg for peg in range(n) if mates[peg] >= n]


def through(mat):
    """How many strings go through."""
    check_mat(mat)
    return len(_pegs_through(mat))


def _upper_half(mat):
    n = mat[0]
    going = _pegs_through(mat)
    kept = [(peg, mate) for peg, mate in _strings(mat) if mate < n]
    return mat_of_pairs(n, len(going), kept + [(peg, n + at) for at, peg in enumerate(going)])


def upper_half(mat):
    """The mat of the pegs above, with as many below as strings go through."""
    check_mat(mat)
    return _upper_half(mat)


def lower_half(mat):
    """The upper half of a mat upside down."""
    check_mat(mat)
    return _upper_half(_upside_down(mat))


def _strings(mat):
    return [(peg, mate) for peg, mate in enumerate(mat[2]) if peg < mate]


def strings(mat):
    """The ascending list of the strings (p, q) of a mat, p < q."""
    check_mat(mat)
    return _strings(mat)
