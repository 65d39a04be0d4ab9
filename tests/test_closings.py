"""closings.py, [10], [11] and [9]: mats closed, wholly and in part, and bent to arches."""

import random
import unittest

from hookmats import closings, joins, mats, sums
from hookmats.errors import InvalidMat, InvalidNumber, InvalidSum, NotSquare
from tests import oracles
from tests.checks import BELOW_ONE, Case, NO_ARCHES, NO_MATS, NO_SUMS

BIG = 10 ** 30 - 1
E, F, THREE = oracles.hook(3, 0), oracles.hook(3, 1), oracles.straight(3)
CAP, CUP = (2, 0, (1, 0)), (0, 2, (1, 0))
THREE_ONE, ONE_THREE = (3, 1, (1, 0, 3, 2)), (1, 3, (3, 2, 1, 0))
NO_SQUARES = [CAP, CUP, THREE_ONE, ONE_THREE, (6, 2, (5, 2, 1, 4, 3, 0, 7, 6))]
BAD = (1, 1, (0, 1))


def some_sum(n, m, seed, many=4, biggest=9):
    """A sum of some of the mats of n and m."""
    chance = random.Random(seed)
    told = oracles.all_mats(n, m)
    kept = sorted(chance.sample(told, chance.randint(1, len(told))))
    return tuple((mat, tuple(chance.randint(1, biggest) * chance.choice((1, -1)) for _ in range(many))) for mat in kept)


def wide_mats():
    """Some mats of sixteen pegs, of each number above."""
    chance = random.Random(1)
    for n in range(17):
        for number in [0, mats.how_many(n, 16 - n) - 1] + [chance.randrange(1430) for _ in range(3)]:
            yield mats.nth(n, 16 - n, number)


class TestClosedRings(Case):

    def test_by_hand(self):
        for mat, wanted in ((THREE, 3), (E, 2), (F, 2), (oracles.joined(E, F)[1], 1), ((1, 1, (1, 0)), 1)):
            self.assert_same_kind(closings.closed_rings(mat), wanted)

    def test_all_squares(self):
        for mat in oracles.squares_to(6):
            self.assert_same_kind(closings.closed_rings(mat), oracles.closed_rings(mat))

    def test_sixteen_pegs(self):
        for mat in mats.all_mats(8, 8)[::7] + [oracles.straight(8)]:
            self.assert_same_kind(self.in_time(closings.closed_rings, mat), oracles.closed_rings(mat))

    def test_as_many_either_way(self):
        for n in range(1, 5):
            for one in oracles.all_mats(n, n):
                for other in oracles.all_mats(n, n):
                    rings, mat = joins.joined(one, other)
                    loose, back = joins.joined(other, one)
                    self.assertEqual(rings + closings.closed_rings(mat), loose + closings.closed_rings(back))

    def test_as_many_either_way_of_sizes_unlike(self):
        for n, m in ((1, 3), (2, 4), (1, 5), (3, 5), (4, 6)):
            for one in oracles.all_mats(n, m):
                for other in oracles.all_mats(m, n)[::3]:
                    rings, mat = joins.joined(one, other)
                    loose, back = joins.joined(other, one)
                    self.assertEqual(rings + closings.closed_rings(mat), loose + closings.closed_rings(back))


class TestPartlyClosed(Case):

    def test_by_hand(self):
        self.assert_same_kind(closings.partly_closed(E, 1), (1, (2, 2, (1, 0, 3, 2))))
        self.assert_same_kind(closings.partly_closed(F, 1), (0, (2, 2, (2, 3, 0, 1))))
        self.assert_same_kind(closings.partly_closed(F, 2), (1, (1, 1, (1, 0))))
        self.assert_same_kind(closings.partly_closed(THREE, 2), (2, (1, 1, (1, 0))))

    def test_all_squares(self):
        for mat in oracles.squares_to(6):
            n = mat[0]
            for many in range(n):
                told = closings.partly_closed(mat, many)
                self.assert_same_kind(told, oracles.partly_closed(mat, many))
                self.assertEqual(told[0] + closings.closed_rings(told[1]), oracles.closed_rings(mat))
            self.assert_same_kind(closings.partly_closed(mat, 0), (0, mat))

    def test_in_two_steps_as_in_one(self):
        for mat in oracles.squares_to(5):
            for many in range(mat[0]):
                for more in range(mat[0] - many):
                    rings, left = closings.partly_closed(mat, many)
                    loose, rest = closings.partly_closed(left, more)
                    self.assertEqual((rings + loose, rest), closings.partly_closed(mat, many + more))

    def test_sixteen_pegs(self):
        for mat in mats.all_mats(8, 8)[::17] + [oracles.straight(8)]:
            for many in range(8):
                told = self.in_time(closings.partly_closed, mat, many)
                self.assert_same_kind(told, oracles.partly_closed(mat, many))


class TestTrace(Case):

    def test_by_hand(self):
        self.assert_same_kind(closings.trace(((E, (1,)),)), (0, 0, 1))
        self.assert_same_kind(closings.trace(()), ())
        self.assert_same_kind(closings.trace(((E, (0, 2)),)), (0, 0, 0, 2))
        self.assert_same_kind(closings.trace((((2, 2, (1, 0, 3, 2)), (0, -1)), ((2, 2, (2, 3, 0, 1)), (1,)))), ())
        self.assert_same_kind(closings.trace((((2, 2, (1, 0, 3, 2)), (-1,)), ((2, 2, (2, 3, 0, 1)), (0, 1)))),
                              (0, -1, 0, 1))

    def test_any_sums(self):
        for n in range(1, 7):
            for seed in range(12):
                told = some_sum(n, n, 100 * n + seed)
                self.assert_same_kind(closings.trace(told), oracles.trace(told))

    def test_sums_of_words_with_rings(self):
        for word in ((), (0,), (0, 0), (1, 1, 0, 1, 1), (0, 1, 0, 0), (1,) * 30):
            rings, mat = oracles.value(3, word)
            wanted = (0,) * (rings + oracles.closed_rings(mat)) + (1,)
            self.assert_same_kind(closings.trace(sums.word_sum(3, word)), wanted)

    def test_products_either_way(self):
        for n in range(1, 5):
            for seed in range(6):
                one, other = some_sum(n, n, seed), some_sum(n, n, seed + 50)
                self.assertEqual(closings.trace(sums.multiply(one, other)), closings.trace(sums.multiply(other, one)))

    def test_products_of_sums_that_are_not_square(self):
        for n, m in ((1, 3), (2, 4), (1, 5), (3, 5)):
            for seed in range(4):
                one, other = some_sum(n, m, seed), some_sum(m, n, seed + 50)
                ahead, behind = sums.multiply(one, other), sums.multiply(other, one)
                self.assertEqual(closings.trace(ahead), closings.trace(behind))
                self.assertEqual((ahead[0][0][0], behind[0][0][0]), (n, m))

    def test_to_the_bound(self):
        chance = random.Random(3)
        told = tuple(
            (mat, tuple(chance.randint(-BIG, BIG) for _ in range(29)) + (BIG,)) for mat in oracles.all_mats(6, 6))
        self.assert_same_kind(self.in_time(closings.trace, told), oracles.trace(told))


class TestRingsRow(Case):

    def test_by_hand(self):
        self.assert_same_kind(closings.rings_row(1), [0, 1])
        self.assert_same_kind(closings.rings_row(2), [0, 1, 1])
        self.assert_same_kind(closings.rings_row(3), [0, 2, 2, 1])

    def test_against_all_mats(self):
        for n in range(1, 7):
            told = [oracles.closed_rings(mat) for mat in oracles.all_mats(n, n)]
            wanted = [told.count(rings) for rings in range(n + 1)]
            self.assert_same_kind(self.in_time(closings.rings_row, n), wanted)


class TestBent(Case):

    def test_by_hand(self):
        self.assert_same_kind(closings.bent((2, 2, (2, 3, 0, 1)), 1), (3, 1, (3, 2, 1, 0)))
        self.assert_same_kind(closings.bent((2, 2, (2, 3, 0, 1)), 2), (4, 0, (3, 2, 1, 0)))
        self.assert_same_kind(closings.bent((2, 2, (1, 0, 3, 2)), 1), (3, 1, (1, 0, 3, 2)))
        self.assert_same_kind(closings.bent(CUP, 2), CAP)
        self.assert_same_kind(closings.bent(CUP, 1), (1, 1, (1, 0)))
        self.assert_same_kind(closings.bent((0, 4, (1, 0, 3, 2)), 1), (1, 3, (3, 2, 1, 0)))

    def test_all_small_mats(self):
        for mat in oracles.mats_to(10):
            for many in range(mat[1] + 1):
                told = closings.bent(mat, many)
                self.assert_same_kind(told, oracles.bent(mat, many))
                self.assertTrue(oracles.is_mat(told))
            self.assert_same_kind(closings.bent(mat, 0), mat)
            self.assert_same_kind(closings.arch_of(mat), oracles.bent(mat, mat[1]))

    def test_in_two_steps_as_in_one(self):
        for mat in oracles.mats_to(8):
            for many in range(mat[1] + 1):
                for more in range(mat[1] - many + 1):
                    self.assertEqual(closings.bent(closings.bent(mat, many), more), closings.bent(mat, many + more))
                self.assertEqual(closings.arch_of(closings.bent(mat, many)), closings.arch_of(mat))

    def test_sixteen_pegs(self):
        for mat in wide_mats():
            for many in range(mat[1] + 1):
                self.assert_same_kind(self.in_time(closings.bent, mat, many), oracles.bent(mat, many))
            self.assert_same_kind(closings.arch_of(mat), oracles.bent(mat, mat[1]))


class TestUnbent(Case):

    def test_by_hand(self):
        self.assert_same_kind(closings.arch_of((2, 2, (2, 3, 0, 1))), (4, 0, (3, 2, 1, 0)))
        self.assert_same_kind(closings.arch_of(CAP), CAP)
        self.assert_same_kind(closings.arch_of(CUP), CAP)
        self.assert_same_kind(closings.unbent(closings.arch_of(E), 3), E)
        self.assert_same_kind(closings.unbent(CAP, 0), CUP)
        self.assert_same_kind(closings.unbent(CAP, 1), (1, 1, (1, 0)))
        self.assert_same_kind(closings.unbent((4, 0, (1, 0, 3, 2)), 1), (1, 3, (3, 2, 1, 0)))

    def test_there_and_back(self):
        for mat in oracles.mats_to(10):
            arch = closings.arch_of(mat)
            self.assertEqual(arch[:2], (mat[0] + mat[1], 0))
            self.assert_same_kind(closings.unbent(arch, mat[0]), mat)

    def test_back_and_there(self):
        for pegs in range(2, 11, 2):
            for arch in oracles.all_mats(pegs, 0):
                for n in range(pegs + 1):
                    told = closings.unbent(arch, n)
                    self.assert_same_kind(told, oracles.unbent(arch, n))
                    self.assertEqual((told[0], closings.arch_of(told)), (n, arch))

    def test_sixteen_pegs(self):
        for mat in wide_mats():
            arch = closings.arch_of(mat)
            for n in range(17):
                self.assert_same_kind(self.in_time(closings.unbent, arch, n), oracles.unbent(arch, n))
            self.assertEqual(closings.unbent(arch, mat[0]), mat)


class TestClosedPower(Case):

    def test_by_hand(self):
        self.assert_same_kind(closings.closed_power(E, 3), 4)
        self.assert_same_kind(closings.closed_power(E, 1), 2)
        self.assert_same_kind(closings.closed_power(THREE, 10 ** 6), 3)
        self.assert_same_kind(closings.closed_power(E, 10 ** 6), 10 ** 6 + 1)
        self.assert_same_kind(closings.closed_power(oracles.joined(E, F)[1], 10 ** 6), 1)

    def test_few_times(self):
        for mat in oracles.squares_to(5):
            for times in (1, 2, 3, 4, 7):
                rings, whole = oracles.power(mat, times) if times < 4 or mat[0] < 4 else joins.power(mat, times)
                self.assert_same_kind(closings.closed_power(mat, times), rings + oracles.closed_rings(whole))

    def test_many_times(self):
        for mat in oracles.squares_to(5) + list(mats.all_mats(7, 7)[::13]):
            for times in (1, 2, 5, 16, 31, 64, 999, 12345, 999983, 10 ** 6 - 1, 10 ** 6):
                told = self.in_time(closings.closed_power, mat, times)
                self.assert_same_kind(told, oracles.closed_power(mat, times))


class TestErrors(Case):

    def test_no_mats(self):
        for told in NO_MATS.values():
            for call in (closings.closed_rings, closings.arch_of):
                self.assert_raised_itself(InvalidMat, told, call, told)
            for number in (0, 1, -1, 10 ** 30):
                for call in (closings.partly_closed, closings.bent, closings.unbent, closings.closed_power):
                    self.assert_raised_itself(InvalidMat, told, call, told, number)

    def test_no_arches(self):
        for told in NO_ARCHES:
            self.assertTrue(oracles.is_mat(told))
            for n in (0, 1, -1, told[0], 99):
                self.assert_raised_itself(InvalidMat, told, closings.unbent, told, n)

    def test_no_squares(self):
        for told in NO_SQUARES:
            self.assertTrue(oracles.is_mat(told))
            self.assert_raised_itself(NotSquare, told, closings.closed_rings, told)
            for number in (0, 1, -1, 10 ** 30):
                self.assert_raised_itself(NotSquare, told, closings.partly_closed, told, number)
                self.assert_raised_itself(NotSquare, told, closings.closed_power, told, number)
        for mat in oracles.mats_to(6):
            if mat[0] != mat[1]:
                self.assert_raised_itself(NotSquare, mat, closings.closed_rings, mat)

    def test_no_sums(self):
        for told in NO_SUMS.values():
            self.assert_raised_itself(InvalidSum, told, closings.trace, told)
        told = ((THREE_ONE, (1,)), (THREE_ONE, (1,)))
        self.assert_raised_itself(InvalidSum, told, closings.trace, told)

    def test_sums_that_are_not_square(self):
        for n, m in ((1, 3), (3, 1), (2, 0), (0, 2), (4, 2), (0, 6)):
            for seed in range(3):
                told = some_sum(n, m, seed)
                self.assert_raised_itself(NotSquare, told[0][0], closings.trace, told)

    def test_wrong_many(self):
        for mat in oracles.squares_to(4):
            n = mat[0]
            for many in (-1, -n, n, n + 1, 2 * n, 10 ** 30, -(10 ** 30)):
                if many not in range(n):
                    self.assert_raised_itself(InvalidNumber, many, closings.partly_closed, mat, many)
        for mat in oracles.mats_to(8):
            for many in (-1, -mat[1] - 1, mat[1] + 1, mat[0] + mat[1] + 1, 10 ** 30, -(10 ** 30)):
                self.assert_raised_itself(InvalidNumber, many, closings.bent, mat, many)

    def test_wrong_n_and_times(self):
        for n in BELOW_ONE:
            self.assert_raised_itself(InvalidNumber, n, closings.rings_row, n)
            for mat in (E, (1, 1, (1, 0))):
                self.assert_raised_itself(InvalidNumber, n, closings.closed_power, mat, n)
        for pegs in range(2, 9, 2):
            for arch in oracles.all_mats(pegs, 0):
                for n in (-1, -pegs, pegs + 1, pegs + 2, 10 ** 30, -(10 ** 30)):
                    self.assert_raised_itself(InvalidNumber, n, closings.unbent, arch, n)

    def test_right_behind_wrong(self):
        still = self.assert_answered_still
        still(closings.closed_rings, (E,), (BAD,), (CAP,))
        still(closings.partly_closed, (E, 1), (BAD, 0), (CAP, 0), (E, 3), (E, -1))
        still(closings.trace, (((E, (0, 1)),),), (((E, ()),),), (((CAP, (1,)),),))
        still(closings.rings_row, (3,), (0,))
        still(closings.bent, (E, 2), (BAD, 0), (E, 4), (E, -1))
        still(closings.arch_of, (E,), (BAD,))
        still(closings.unbent, (CAP, 1), (BAD, 1), (E, 1), (CAP, 3), (CAP, -1))
        still(closings.closed_power, (E, 3), (BAD, 3), (CAP, 3), (E, 0))


class TestCalls(Case):

    def test_by_position_and_by_name(self):
        self.assert_by_name(closings.closed_rings, mat=E)
        self.assert_by_name(closings.partly_closed, mat=E, many=1)
        self.assert_by_name(closings.trace, told=((E, (1, 2)), (THREE, (0, 3))))
        self.assert_by_name(closings.rings_row, n=3)
        self.assert_by_name(closings.bent, mat=ONE_THREE, many=2)
        self.assert_by_name(closings.arch_of, mat=E)
        self.assert_by_name(closings.unbent, arch=(4, 0, (1, 0, 3, 2)), n=1)
        self.assert_by_name(closings.closed_power, mat=E, times=5)

    def test_new_lists(self):
        for n in range(1, 6):
            self.assert_new_lists(closings.rings_row, n)

    def test_what_was_told_may_be_passed_on(self):
        rings, mat = closings.partly_closed(closings.unbent(closings.arch_of(E), 3), 1)
        self.assertEqual(rings + closings.closed_power(mat, 2), 1 + 2 + 0)
        poly = closings.trace(sums.word_sum(3, (0, 0)))
        self.assertEqual(closings.trace(sums.scaled(sums.sum_of(E), poly)), (0,) * 5 + (1,))


if __name__ == "__main__":
    unittest.main()
