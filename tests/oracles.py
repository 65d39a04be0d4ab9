"""Slow, plain ways to tell what the document says, apart from the package's own."""

from functools import lru_cache


def round_about(n, m):
    return [*range(n), *reversed(range(n, n + m))]


def cross(n, m, one, other):
    """By the words of [4]: just one peg of the one stands, round about, between those of the other."""
    place = {peg: at for at, peg in enumerate(round_about(n, m))}
    low, high = sorted(place[peg] for peg in other)
    return sum(low < place[peg] < high for peg in one) == 1


def pairs_of(mates):
    return [(p, q) for p, q in enumerate(mates) if p < q]


def is_mat(told):
    n, m, mates = told
    if min(n, m) < 0 or n + m < 2 or (n + m) % 2 or len(mates) != n + m:
        return False
    for peg, mate in enumerate(mates):
        if mate not in range(n + m) or mate == peg or mates[mate] != peg:
            return False
    pairs = pairs_of(mates)
    return not any(cross(n, m, one, other) for one in pairs for other in pairs if one != other)


@lru_cache(None)
def matchings(pegs):
    """All ways to pair pegs, crossing or not, each a tuple of pairs."""
    if not pegs:
        return ((),)
    found = []
    for mate in pegs[1:]:
        left = tuple(peg for peg in pegs[1:] if peg != mate)
        found.extend(((pegs[0], mate), *rest) for rest in matchings(left))
    return tuple(found)


def mat_of(n, m, pairs):
    mates = {}
    for p, q in pairs:
        mates[p], mates[q] = q, p
    return (n, m, tuple(mates[peg] for peg in range(n + m)))


@lru_cache(None)
def all_mats(n, m):
    """The mats of n and m, ascending, as a tuple: those of all pairings in which no two cross."""
    if n + m == 0 or (n + m) % 2:
        return ()
    return tuple(sorted(
        mat_of(n, m, pairs)
        for pairs in matchings(tuple(range(n + m)))
        if not any(cross(n, m, one, other) for one in pairs for other in pairs if one != other)
    ))


def shapes(pegs):
    """All (n, m) with so many pegs together."""
    return [(n, pegs - n) for n in range(pegs + 1)]


def mats_to(pegs):
    """All mats of at most so many pegs."""
    return [mat for many in range(2, pegs + 1, 2) for n, m in shapes(many) for mat in all_mats(n, m)]


def squares_to(n):
    return [mat for size in range(1, n + 1) for mat in all_mats(size, size)]


def joined(one, other):
    """Put behind by growing lots of places that hang together."""
    n, m = one[0], one[1]
    k = other[1]
    name_one = [("top", i) for i in range(n)] + [("middle", i) for i in range(m)]
    name_other = [("middle", i) for i in range(m)] + [("low", i) for i in range(k)]
    lots = {name: {name} for name in name_one + name_other}
    for names, mat in ((name_one, one), (name_other, other)):
        for p, q in pairs_of(mat[2]):
            lot = lots[names[p]] | lots[names[q]]
            for name in lot:
                lots[name] = lot
    outside = [("top", i) for i in range(n)] + [("low", i) for i in range(k)]
    mates = []
    for name in outside:
        mates.append(next(at for at, end in enumerate(outside) if end != name and end in lots[name]))
    loose = {frozenset(lot) for lot in lots.values() if not any(end in lot for end in outside)}
    return len(loose), (n, k, tuple(mates))


def power(mat, times):
    rings, result = 0, mat
    for _ in range(times - 1):
        loose, result = joined(result, mat)
        rings += loose
    return rings, result
