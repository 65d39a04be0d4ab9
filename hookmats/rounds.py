"""Arches, one on this side of the line of pegs and one on that side: the rounds that they make."""

from hookmats.closings import check_arch
from hookmats.errors import InvalidPair
from hookmats.loops import loops
from hookmats.mats import all_mats, check_from


def _check_two(one, other):
    check_arch(one)
    check_arch(other)
    if one[0] != other[0]:
        raise InvalidPair((one[0], other[0]))


def _many(one, other):
    return len(loops(one[2], other[2]))


def rounds(one, other):
    """The ascending list of the rounds, each from its least peg on, along the one arch first."""
    _check_two(one, other)
    return loops(one[2], other[2])


def how_many_rounds(one, other):
    """The number of rounds of two arches."""
    _check_two(one, other)
    return _many(one, other)


def pairs_row(h):
    """How many pairs of arches of 2 h pegs have each number of rounds from 0 to h."""
    check_from(h, 1)
    arches, row = all_mats(2 * h, 0), [0] * (h + 1)
    for one in arches:
        for other in arches:
            row[_many(one, other)] += 1
    return row


def partners(arch, many):
    """The ascending list of the arches that have so many rounds with an arch."""
    check_arch(arch)
    check_from(many, 0)
    return [other for other in all_mats(arch[0], 0) if _many(arch, other) == many]


def first_pair(h, many):
    """The first pair of arches of 2 h pegs with so many rounds, or None."""
    check_from(h, 1)
    check_from(many, 0)
    arches = all_mats(2 * h, 0)
    for one in arches:
        for other in arches:
            if _many(one, other) == many:
                return one, other
    return None


def _turned(arch, steps):
    pegs, _, mates = arch
    return (pegs, 0, tuple([(mates[(peg - steps) % pegs] + steps) % pegs for peg in range(pegs)]))


def turned_arch(arch, steps):
    """The arch in which the string of each peg stands so many steps further on, round about."""
    check_arch(arch)
    check_from(steps, 0)
    return _turned(arch, steps)


def turns_to(one, other):
    """The least number of steps by which the one arch, turned, is the other, or None."""
    _check_two(one, other)
    for steps in range(one[0]):
        if _turned(one, steps) == other:
            return steps
    return None
