"""parts.py, [12] and [9]: parts of the numbers below n that do not cross."""

import itertools
import random
import unittest
from math import comb

from hookmats import parts
from hookmats.errors import InvalidMat, InvalidNumber, InvalidPair, InvalidParts
from tests import oracles
from tests.checks import BELOW_ONE, Case, NO_ARCHES, NO_MATS, NO_PARTS

GREAT = 10 ** 30 - 1
ONE_CALLS = [parts.arch_of_parts, parts.turn, parts.lengths_of]
TWO_CALLS = [parts.is_finer, parts.meet, parts.least_over]
WRONG_LENGTHS = [
    (), (0,), (-1,), (0, 1), (-3, 2, 5), (2, 1), (1, 2, 1), (3, 3, 2), (1, 0), (2, 0, 3), (1, 1, -1), (5, 4, 3),
    (0, 0), (1, 10, 9, 10), (-(10 ** 30),),
]


def some_parts(n, many, seed):
    return random.Random(seed).sample(oracles.all_parts(n), min(many, len(oracles.all_parts(n))))


def one_less(told):
    """Each number one less, round about."""
    n = sum(map(len, told))
    return tuple(sorted(tuple(sorted((number - 1) % n for number in part)) for part in told))


def arch_of(told):
    """By the words of parts.py."""
    pairs = []
    for part in told:
        for one, following in zip(part, part[1:]):
            pairs.append((2 * one + 1, 2 * following))
        pairs.append((2 * part[0], 2 * part[-1] + 1))
    return oracles.mat_of(2 * sum(map(len, told)), 0, pairs)


def rows_that_add_up(total, least=1):
    """All tuples of lengths that add up to a total."""
    if total == 0:
        yield ()
    for length in range(least, total + 1):
        for row in rows_that_add_up(total - length, length):
            yield (length, *row)


class TestIsParts(Case):

    def test_parts(self):
        for n in range(1, 8):
            for told in oracles.all_parts(n):
                self.assertIs(parts.is_parts(told), True)
        for told in (
            ((0,),), (tuple(range(50)),), tuple((number,) for number in range(50)),
            ((0, 49), *((2 * at + 1, 2 * at + 2) for at in range(24))),
            tuple((at, 49 - at) for at in range(25)),
        ):
            self.assertIs(parts.is_parts(told), True)

    def test_none(self):
        for why, told in NO_PARTS.items():
            self.assertIs(parts.is_parts(told), False, why)

    def test_all_partings(self):
        found = {True: 0, False: 0}
        for n in range(1, 8):
            for told in oracles.all_partings(n):
                told = tuple(sorted(told))
                wanted = oracles.is_parts(told)
                found[wanted] += 1
                self.assertIs(parts.is_parts(told), wanted)
        self.assertEqual(found, {True: 625, False: 530})

    def test_all_small_tuples(self):
        rows = [row for length in range(4) for row in itertools.product(range(-1, 4), repeat=length)]
        for one in rows:
            self.assertIs(parts.is_parts((one,)), oracles.is_parts((one,)))
            for other in rows[:31]:
                self.assertIs(parts.is_parts((one, other)), oracles.is_parts((one, other)))
                self.assertIs(parts.is_parts((other, one)), oracles.is_parts((other, one)))

    def test_in_each_order(self):
        for told in oracles.all_parts(4):
            for one in itertools.permutations(told):
                self.assertIs(parts.is_parts(one), one == told)
            for at, part in enumerate(told):
                for one in itertools.permutations(part):
                    self.assertIs(parts.is_parts(told[:at] + (one,) + told[at + 1:]), one == part)

    def test_one_number_wrong(self):
        for told in oracles.all_parts(5):
            for at, part in enumerate(told):
                for place, number in enumerate(part):
                    for wrong in (number - 1, number + 1, -1 - number, 5, GREAT):
                        one = part[:place] + (wrong,) + part[place + 1:]
                        self.assertIs(parts.is_parts(told[:at] + (one,) + told[at + 1:]), False)
                    one = part[:place] + part[place + 1:]
                    wanted = oracles.is_parts(told[:at] + (one,) + told[at + 1:])
                    self.assertIs(parts.is_parts(told[:at] + (one,) + told[at + 1:]), wanted)


class TestAllParts(Case):

    def test_by_hand(self):
        self.assert_same_kind(parts.all_parts(1), [((0,),)])
        self.assert_same_kind(parts.all_parts(2), [((0,), (1,)), ((0, 1),)])
        self.assert_same_kind(parts.all_parts(3), [
            ((0,), (1,), (2,)), ((0,), (1, 2)), ((0, 1), (2,)), ((0, 1, 2),), ((0, 2), (1,))])

    def test_against_a_plain_search(self):
        for n, many in enumerate((1, 2, 5, 14, 42, 132, 429), 1):
            told = self.in_time(parts.all_parts, n)
            self.assert_same_kind(told, list(oracles.all_parts(n)))
            self.assertEqual(len(told), many)


class TestArches(Case):

    def test_by_hand(self):
        self.assert_same_kind(parts.arch_of_parts(((0, 2), (1,))), (6, 0, (5, 4, 3, 2, 1, 0)))
        self.assert_same_kind(parts.arch_of_parts(((0,), (1,))), (4, 0, (1, 0, 3, 2)))
        self.assert_same_kind(parts.arch_of_parts(((0, 1),)), (4, 0, (3, 2, 1, 0)))
        self.assert_same_kind(parts.parts_of_arch((4, 0, (1, 0, 3, 2))), ((0,), (1,)))
        self.assert_same_kind(parts.parts_of_arch((6, 0, (5, 2, 1, 4, 3, 0))), ((0, 1, 2),))

    def test_there_and_back(self):
        for n in range(1, 9):
            for told in oracles.all_parts(n):
                arch = parts.arch_of_parts(told)
                self.assert_same_kind(arch, arch_of(told))
                self.assertTrue(n > 6 or oracles.is_mat(arch))
                self.assert_same_kind(parts.parts_of_arch(arch), told)

    def test_back_and_there(self):
        for n in range(1, 6):
            arches = oracles.all_mats(2 * n, 0)
            for arch in arches:
                told = parts.parts_of_arch(arch)
                self.assertTrue(oracles.is_parts(told))
                self.assert_same_kind(parts.arch_of_parts(told), arch)
            self.assertEqual(len({parts.parts_of_arch(arch) for arch in arches}), len(arches))


class TestFiner(Case):

    def test_by_hand(self):
        self.assertIs(parts.is_finer(((0,), (1,)), ((0, 1),)), True)
        self.assertIs(parts.is_finer(((0, 1),), ((0,), (1,))), False)
        self.assertIs(parts.is_finer(((0, 1), (2,)), ((0,), (1, 2))), False)
        one, other = ((0, 1), (2,)), ((0,), (1, 2))
        self.assert_same_kind(parts.meet(one, other), ((0,), (1,), (2,)))
        self.assert_same_kind(parts.least_over(one, other), ((0, 1, 2),))
        # Made one as sets only, these would cross: all four come together.
        self.assert_same_kind(parts.least_over(((0, 2), (1,), (3,)), ((0,), (1, 3), (2,))), ((0, 1, 2, 3),))
        self.assert_same_kind(parts.least_over(((0, 2), (1,), (3,)), ((0, 3), (1,), (2,))), ((0, 2, 3), (1,)))
        self.assert_same_kind(parts.meet(((0, 2, 3), (1,)), ((0, 1, 3), (2,))), ((0, 3), (1,), (2,)))
        one, other = ((0, 2), (1,), (3, 5), (4,)), ((0,), (1,), (2, 3), (4,), (5,))
        self.assert_same_kind(parts.least_over(one, other), ((0, 2, 3, 5), (1,), (4,)))
        self.assert_same_kind(parts.least_over(((0,), (1, 4), (2,), (3,), (5,)), ((0, 5), (1,), (2, 3), (4,))),
                              ((0, 5), (1, 4), (2, 3)))
        self.assert_same_kind(parts.least_over(((0, 5), (1, 2), (3,), (4,)), ((0,), (1,), (2, 3), (4, 5))),
                              ((0, 4, 5), (1, 2, 3)))

    def assert_two(self, n, one, other):
        self.assertIs(parts.is_finer(one, other), other in oracles.coarser(n)[one])
        self.assert_same_kind(parts.meet(one, other), oracles.meet(n, one, other))
        self.assert_same_kind(parts.least_over(one, other), oracles.least_over(n, one, other))

    def test_all_small_ones(self):
        for n in range(1, 6):
            for one, other in itertools.product(oracles.all_parts(n), repeat=2):
                self.assert_two(n, one, other)

    def test_to_the_bound(self):
        told = oracles.all_parts(6)
        for at, one in enumerate(told):
            for other in told[at % 5::5] + (one,):
                self.assert_two(6, one, other)

    def test_in_good_time(self):
        for one, other in itertools.product(some_parts(8, 40, 1), repeat=2):
            low, high = self.in_time(parts.meet, one, other), self.in_time(parts.least_over, one, other)
            self.assertTrue(oracles.is_parts(low) and oracles.is_parts(high))
            for told in (one, other):
                self.assertIs(self.in_time(parts.is_finer, low, told), True)
                self.assertIs(self.in_time(parts.is_finer, told, high), True)


class TestTurn(Case):

    def test_by_hand(self):
        self.assert_same_kind(parts.turn(((0, 2), (1,))), ((0, 1), (2,)))
        self.assert_same_kind(parts.turn(((0,),)), ((0,),))
        self.assert_same_kind(parts.turn(((0,), (1,), (2,))), ((0, 1, 2),))
        self.assert_same_kind(parts.turn(((0, 1, 2),)), ((0,), (1,), (2,)))
        self.assert_same_kind(parts.turn(((0, 1), (2,))), ((0,), (1, 2)))

    def test_against_a_plain_search(self):
        for n in range(1, 7):
            for told in oracles.all_parts(n):
                self.assert_same_kind(parts.turn(told), oracles.turn(told))

    def test_to_the_bound(self):
        for n in range(1, 9):
            for told in oracles.all_parts(n):
                turned = parts.turn(told)
                self.assert_same_kind(turned, oracles.turn_by_pairs(told))
                self.assertEqual(len(told) + len(turned), n + 1)
                self.assert_same_kind(parts.turn(turned), one_less(told))


class TestChains(Case):

    def test_by_hand(self):
        for n, many, wanted in ((3, 2, 12), (3, 1, 5), (1, 7, 1), (2, 1, 2), (2, 2, 3), (2, 50, 51), (4, 2, 55)):
            self.assert_same_kind(parts.chains(n, many), wanted)

    def test_against_a_plain_count(self):
        for n in range(1, 6):
            for many in range(1, 8):
                self.assert_same_kind(parts.chains(n, many), oracles.chains(n, many))

    def test_against_trees(self):
        for n in (1, 2, 3, 7, 20, 35, 50):
            for many in (1, 2, 3, 10, 49, 50):
                self.assert_same_kind(self.in_time(parts.chains, n, many), oracles.trees(n, many + 1))
        self.assert_same_kind(parts.chains(50, 1), comb(100, 50) // 51)


class TestLengths(Case):

    def test_by_hand(self):
        self.assert_same_kind(parts.lengths_of(((0, 2), (1,))), (1, 2))
        self.assert_same_kind(parts.lengths_of(((0,),)), (1,))
        self.assert_same_kind(parts.lengths_of(((0, 1, 5), (2, 3), (4,))), (1, 2, 3))
        self.assert_same_kind(parts.how_many_of((1, 2)), 3)
        self.assert_same_kind(parts.how_many_of((1,)), 1)
        self.assert_same_kind(parts.how_many_of((2, 2)), 2)
        self.assert_same_kind(parts.how_many_of((1, 1, 2)), 6)

    def test_against_all_parts(self):
        for n in range(1, 9):
            found = {}
            for told in oracles.all_parts(n):
                lengths = parts.lengths_of(told)
                self.assert_same_kind(lengths, tuple(sorted(map(len, told))))
                found[lengths] = found.get(lengths, 0) + 1
            self.assertEqual(sorted(found), sorted(rows_that_add_up(n)))
            for lengths, wanted in found.items():
                self.assert_same_kind(parts.how_many_of(lengths), wanted)

    def test_all_lengths_that_add_up(self):
        for n in (12, 20, 25):
            told = list(rows_that_add_up(n))
            self.assertEqual(sum(parts.how_many_of(lengths) for lengths in told), comb(2 * n, n) // (n + 1))
            for lengths in told[::41]:
                self.assert_same_kind(parts.how_many_of(lengths), oracles.how_many_of(lengths))

    def test_to_the_bound(self):
        for lengths in (
            (50,), (1, 49), (25, 25), (1,) * 50, (1,) * 48 + (2,), (2,) * 25, (5,) * 10, (10,) * 5, (1,) * 25 + (25,),
            (1, 2, 3, 4, 5, 6, 7, 8), (2, 3, 4, 5, 6, 7, 8, 9), (1,) * 10 + (2,) * 10 + (20,), (1, 1, 1, 2, 2, 3, 40),
        ):
            self.assert_same_kind(self.in_time(parts.how_many_of, lengths), oracles.how_many_of(lengths))
        self.assertEqual(parts.how_many_of((1,) * 48 + (2,)), comb(50, 2))


class TestErrors(Case):

    def test_no_parts(self):
        bad, worse = ((1,),), ((0, 2), (1, 3))
        for told in NO_PARTS.values():
            for call in ONE_CALLS:
                self.assert_raised_itself(InvalidParts, told, call, told)
            for call in TWO_CALLS:
                for right in (((0,),), ((0, 1),), ((0, 3), (1, 2))):
                    self.assert_raised_itself(InvalidParts, told, call, told, right)
                    self.assert_raised_itself(InvalidParts, told, call, right, told)
                for other in (bad, worse):
                    self.assert_raised_itself(InvalidParts, told, call, told, other)

    def test_no_arches(self):
        for told in list(NO_MATS.values()) + NO_ARCHES:
            self.assert_raised_itself(InvalidMat, told, parts.parts_of_arch, told)

    def test_wrong_pairs(self):
        for n, m in itertools.permutations(range(1, 9), 2):
            for one in (tuple((number,) for number in range(n)), (tuple(range(n)),)):
                for other in (tuple((number,) for number in range(m)), (tuple(range(m)),)):
                    for call in TWO_CALLS:
                        self.assert_raised(InvalidPair, (n, m), call, one, other)

    def test_wrong_numbers(self):
        for n in BELOW_ONE:
            self.assert_raised_itself(InvalidNumber, n, parts.all_parts, n)
            for many in (1, 50, 0, -7, GREAT):
                self.assert_raised_itself(InvalidNumber, n, parts.chains, n, many)
            for right in (1, 3, 50):
                self.assert_raised_itself(InvalidNumber, n, parts.chains, right, n)

    def test_wrong_lengths(self):
        for lengths in WRONG_LENGTHS:
            self.assert_raised_itself(InvalidNumber, lengths, parts.how_many_of, lengths)
        for lengths in itertools.product(range(-1, 4), repeat=3):
            if lengths[0] < 1 or list(lengths) != sorted(lengths):
                self.assert_raised_itself(InvalidNumber, lengths, parts.how_many_of, lengths)
            else:
                self.assertEqual(parts.how_many_of(lengths), oracles.how_many_of(lengths))

    def test_right_behind_wrong(self):
        still, right, bad = self.assert_answered_still, ((0, 2), (1,)), ((0, 2), (1, 3))
        for call in ONE_CALLS:
            still(call, (right,), (bad,), ((),), (((1,), (0,)),))
        for call in TWO_CALLS:
            still(call, (right, ((0, 1), (2,))), (bad, right), (right, bad), (right, ((0,),)))
        still(parts.all_parts, (3,), (0,))
        still(parts.parts_of_arch, ((4, 0, (1, 0, 3, 2)),), ((2, 2, (1, 0, 3, 2)),), ((2, 0, (0, 1)),))
        still(parts.chains, (3, 2), (0, 2), (3, 0))
        still(parts.how_many_of, ((1, 2),), ((2, 1),), ((),))


class TestCalls(Case):

    def test_by_position_and_by_name(self):
        told, other = ((0, 2), (1,)), ((0, 1), (2,))
        self.assert_by_name(parts.is_parts, told=told)
        self.assert_by_name(parts.all_parts, n=3)
        for call in ONE_CALLS:
            self.assert_by_name(call, told=told)
        self.assert_by_name(parts.parts_of_arch, arch=(6, 0, (5, 2, 1, 4, 3, 0)))
        for call in TWO_CALLS:
            self.assert_by_name(call, one=((0,), (1,), (2,)), other=other)
        self.assert_by_name(parts.chains, n=3, many=2)
        self.assert_by_name(parts.how_many_of, lengths=(1, 1, 2))

    def test_new_lists(self):
        for n in range(1, 6):
            self.assert_new_lists(parts.all_parts, n)

    def test_what_was_told_may_be_passed_on(self):
        for n in range(1, 6):
            told = parts.all_parts(n)
            for one in told:
                self.assertIs(parts.is_parts(parts.turn(one)), True)
                self.assertEqual(parts.parts_of_arch(parts.arch_of_parts(parts.turn(one))), parts.turn(one))
                self.assertGreater(parts.how_many_of(parts.lengths_of(one)), 0)
            self.assertEqual(len(told), parts.chains(n, 1))


if __name__ == "__main__":
    unittest.main()
