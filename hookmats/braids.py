"""Braid words: sums of mats with Laurent polynomials, in A, and what closed ones come to."""

from hookmats.errors import InvalidBraid, InvalidNumber, InvalidPeg
from hookmats.joins import put_behind
from hookmats.loops import closed_loops
from hookmats.mats import check_from, hook, straight

# The worth of a ring.
RING = ((-2, -1), (2, -1))


def _check_crossings(n, word):
    for number in word:
        if not 1 <= abs(number) < n:
            raise InvalidBraid(number)


def _check_word(n, word):
    check_from(n, 1)
    _check_crossings(n, word)


def _check_not_zero(word):
    if 0 in word:
        raise InvalidBraid(0)


def _laurent_of(found):
    """The Laurent polynomial of a dict of coefficients, which may be 0."""
    return tuple(sorted([(power, coefficient) for power, coefficient in found.items() if coefficient]))


def _plus(one, other):
    found = dict(one)
    for power, coefficient in other:
        found[power] = found.get(power, 0) + coefficient
    return _laurent_of(found)


def _times(one, other):
    found = {}
    for power, coefficient in one:
        for more, factor in other:
            found[power + more] = found.get(power + more, 0) + coefficient * factor
    return _laurent_of(found)


def _times_rings(laurent, rings):
    """A Laurent polynomial multiplied by the worth of so many rings."""
    for _ in range(rings):
        laurent = _times(laurent, RING)
    return laurent


def _crossed(told, n, number):
    """A dict of mats and Laurent polynomials, with a crossing put behind."""
    sign = 1 if number > 0 else -1
    behind, found = hook(n, abs(number) - 1), {}
    for mat, laurent in told.items():
        rings, whole = put_behind(mat, behind)
        hooked = _times_rings(_times(laurent, ((-sign, 1),)), rings)
        found[mat] = _plus(found.get(mat, ()), _times(laurent, ((sign, 1),)))
        found[whole] = _plus(found.get(whole, ()), hooked)
    return found


def _sum_of_word(n, word):
    told = {straight(n): ((0, 1),)}
    for number in word:
        told = _crossed(told, n, number)
    return sorted([(mat, laurent) for mat, laurent in told.items() if laurent])


def braid_sum(n, word):
    """The ascending list of the tuples (mat, Laurent polynomial) of the product of a word's crossings."""
    _check_word(n, word)
    return _sum_of_word(n, word)


def same_sums(n, one, other):
    """True if two braid words have equal sums."""
    _check_word(n, one)
    _check_crossings(n, other)
    return _sum_of_word(n, one) == _sum_of_word(n, other)


def writhe(word):
    """How many numbers of a word are above 0, less how many are below."""
    _check_not_zero(word)
    return sum([1 if number > 0 else -1 for number in word])


def closed_poly(n, word):
    """The Laurent polynomial of a closed braid, which no move changes."""
    _check_word(n, word)
    whole, turns = (), writhe(word)
    for mat, laurent in _sum_of_word(n, word):
        whole = _plus(whole, _times_rings(laurent, len(closed_loops(mat)) - 1))
    return _times(whole, ((-3 * turns, -1 if turns & 1 else 1),))


def undone(word):
    """A word from its end, all signs changed."""
    _check_not_zero(word)
    return tuple([-number for number in reversed(word)])


def moved(n, word, at):
    """The word that the move at a place leads to, or None if there is none."""
    _check_word(n, word)
    if not 0 <= at < len(word):
        raise InvalidPeg(at)
    if at + 1 == len(word):
        return None
    one, other, ahead = word[at], word[at + 1], word[:at]
    if abs(abs(one) - abs(other)) >= 2:
        return ahead + (other, one) + word[at + 2:]
    if one == -other:
        return ahead + word[at + 2:]
    # Two that differ by 1 have one sign, for there is no 0.
    if abs(one - other) == 1 and word[at + 2:at + 3] == (one,):
        return ahead + (other, one, other) + word[at + 3:]
    return None


def longer(n, word, sign):
    """The word of n + 1 strings with n, or for the sign -1 with -n, behind it."""
    _check_word(n, word)
    if sign not in (1, -1):
        raise InvalidNumber(sign)
    return word + (n * sign,)


def turned_word(word):
    """A word with its first number put at its end."""
    _check_not_zero(word)
    if not word:
        raise InvalidBraid(())
    return word[1:] + word[:1]
