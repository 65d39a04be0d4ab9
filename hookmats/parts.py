"""Parts of the numbers below n that do not cross."""

from math import comb, factorial

from hookmats.closings import check_arch
from hookmats.errors import InvalidNumber, InvalidPair, InvalidParts
from hookmats.mats import all_mats, check_from, mat_of_pairs
from hookmats.rounds import turned_arch


def _cross(one, other):
    """True if two ascending tuples, with no number in both, cross."""
    # They do not if all of the other lies between two neighbours of the one, or
    # outside: what is ahead of the first one and what is behind the last are one.
    gaps = [len([number for number in one if number < told]) % len(one) for told in other]
    return len(set(gaps)) > 1


def _none_cross(told):
    return not any([_cross(one, other) for at, one in enumerate(told) for other in told[:at]])


def _ascends(row):
    return all([ahead < behind for ahead, behind in zip(row, row[1:])])


def is_parts(told):
    """True if a tuple of tuples of integers is parts of some n."""
    numbers = [number for part in told for number in part]
    if not numbers or sorted(numbers) != list(range(len(numbers))) or () in told:
        return False
    return _ascends(told) and all([_ascends(part) for part in told]) and _none_cross(told)


def _check_parts(told):
    if not is_parts(told):
        raise InvalidParts(told)


def _size(told):
    """The n of parts."""
    return sum([len(part) for part in told])


def _check_two(one, other):
    _check_parts(one)
    _check_parts(other)
    if _size(one) != _size(other):
        raise InvalidPair((_size(one), _size(other)))


def all_parts(n):
    """The ascending list of the parts of n."""
    check_from(n, 1)
    return sorted([_parts_of_arch(arch) for arch in all_mats(2 * n, 0)])


def _arch_of_parts(told):
    # Each number has a peg on its left and one on its right: a tuple's strings
    # lead from the right of each number to the left of the next one, and back.
    pairs = []
    for part in told:
        behind = part[1:] + part[:1]
        pairs.extend([(2 * number + 1, 2 * following) for number, following in zip(part, behind)])
    return mat_of_pairs(2 * _size(told), 0, pairs)


def arch_of_parts(told):
    """The arch with a string for each number of parts, to the next one of its tuple, or back to the first."""
    _check_parts(told)
    return _arch_of_parts(told)


def _parts_of_arch(arch):
    found, passed = [], {}
    for start in range(arch[0] // 2):
        part, number = [], start
        while number not in passed:
            passed[number] = True
            part.append(number)
            number = arch[2][2 * number + 1] // 2
        if part:
            found.append(tuple(part))
    return tuple(found)


def parts_of_arch(arch):
    """The parts whose arch it is."""
    check_arch(arch)
    return _parts_of_arch(arch)


def _is_within(part, other):
    return all([number in other for number in part])


def is_finer(one, other):
    """True if each tuple of the one lies in one of the other."""
    _check_two(one, other)
    return all([any([_is_within(part, whole) for whole in other]) for part in one])


def meet(one, other):
    """The parts that are finer than both, all others such being finer than they."""
    _check_two(one, other)
    shared = [tuple([number for number in part if number in whole]) for part in one for whole in other]
    return tuple(sorted([part for part in shared if part]))


def _touch(one, other):
    """True if two ascending tuples have a number in common, or cross."""
    return any([number in other for number in one]) or _cross(one, other)


def _united(told, part):
    """A list of tuples, of which no two touch, with one more, made one with all that it touches."""
    # A tuple that it does not touch has it in one of its gaps, and so all that it
    # touches: made one, they do not touch that tuple either.
    touching = [other for other in told if _touch(part, other)]
    numbers = [number for other in touching for number in other]
    return [other for other in told if other not in touching] + [tuple(sorted(set(numbers + list(part))))]


def least_over(one, other):
    """The parts that both are finer than, they being finer than all others such."""
    _check_two(one, other)
    found = list(one)
    for part in other:
        found = _united(found, part)
    return tuple(sorted(found))


def turn(told):
    """The parts with the fewest tuples that do not cross those told, each number put behind its like."""
    _check_parts(told)
    # A number of the turn stands between one told and the next: in the same arch
    # its left peg is the right one of the one, its right peg the left one of the next.
    return _parts_of_arch(turned_arch(_arch_of_parts(told), 2 * _size(told) - 1))


def chains(n, many):
    """The number of lists of so many parts of n, each finer than the next one or the same."""
    check_from(n, 1)
    check_from(many, 1)
    # Such lists are as many as the parts of n * many numbers of which each
    # length is a multiple of many (Edelman), and these have been counted.
    return comb((many + 1) * n, n - 1) // n


def lengths_of(told):
    """The lengths of the tuples of parts, from the least one on."""
    _check_parts(told)
    return tuple(sorted([len(part) for part in told]))


def _check_lengths(lengths):
    if not lengths or lengths[0] < 1 or list(lengths) != sorted(lengths):
        raise InvalidNumber(lengths)


def how_many_of(lengths):
    """How many parts have tuples of such lengths."""
    _check_lengths(lengths)
    n = sum(lengths)
    # As Kreweras counted them; lengths that are alike can be exchanged.
    alike = 1
    for length in range(1, n + 1):
        alike *= factorial(lengths.count(length))
    return factorial(n) // (factorial(n + 1 - len(lengths)) * alike)
