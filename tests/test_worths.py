"""worths.py, [7] and [9]: the worth of a ring by a prime."""

import random
import unittest

from hookmats import killers, pairings, polys, worths
from hookmats.errors import InvalidNumber, InvalidPrime
from tests import oracles
from tests.checks import BELOW_ONE, Case, NO_PRIMES, PRIMES

BIG = 10 ** 30 - 1
FAR = [-1, -2, -5, BIG, -BIG, 123456789012345678901234567890, -987654321098765432109876543210]
OF_N = [worths.barred, worths.ranks, worths.left_size, worths.is_whole, worths.closed_rank]


def numbers_by(prime, seed):
    """All remainders of a small prime, some of a great one, and numbers far from them."""
    some = range(prime) if prime < 12 else random.Random(seed).sample(range(prime), 5) + [0, 1, 2, prime - 1]
    return list(some) + FAR


class TestFirstZero(Case):

    def test_by_hand(self):
        for number, prime, wanted in ((0, 5, 1), (1, 5, 2), (2, 5, 4), (2, 2, 1), (1, 2, 2), (2, 97, 96), (0, 97, 1)):
            self.assert_same_kind(worths.first_zero(number, prime), wanted)

    def test_against_the_row(self):
        found = set()
        for prime in PRIMES:
            for number in list(range(prime)) + FAR + [prime, -prime, 2 * prime + 1]:
                row = oracles.u_at(prime + 1, number, prime) if prime < 30 else self.stepwise(number, prime)
                wanted = next(at for at in range(1, len(row)) if row[at] == 0)
                self.assert_same_kind(worths.first_zero(number, prime), wanted)
                self.assertTrue(1 <= wanted <= prime)
                found.add(prime - wanted)
        self.assertTrue({0, 1} <= found)

    def stepwise(self, number, prime):
        row = [1, number % prime]
        while len(row) <= prime:
            row.append((row[-1] * number - row[-2]) % prime)
        return row

    def test_against_the_polynomials(self):
        for prime in (2, 3, 5, 7, 11, 13):
            for number in list(range(prime)) + FAR:
                row = [polys.at_prime(poly, number, prime) for poly in polys.u_row(prime + 1)]
                self.assertEqual(worths.first_zero(number, prime), row.index(0))


class TestBarred(Case):

    def test_by_hand(self):
        self.assert_same_kind(worths.barred(4, 0, 5), [2, 4])
        self.assert_same_kind(worths.barred(1, 0, 2), [])
        self.assert_same_kind(worths.barred(2, 0, 2), [2])
        self.assert_same_kind(worths.barred(3, 1, 7), [3])
        self.assert_same_kind(worths.barred(6, 2, 5), [5, 6])

    def test_against_the_binomials(self):
        for prime in PRIMES[:5] + [53, 97]:
            for number in numbers_by(prime, prime)[:11] + FAR[2:4]:
                wanted = [
                    n for n in range(1, 9)
                    if any(oracles.value_at(oracles.binomial(n, r), number) % prime == 0 for r in range(1, n + 1))]
                for n in range(1, 9):
                    self.assert_same_kind(worths.barred(n, number, prime), [size for size in wanted if size <= n])

    def test_against_the_killers(self):
        for prime in PRIMES[:4] + [31, 97]:
            for number in range(min(prime, 9)):
                wanted = [n for n in range(1, 6) if killers.killer_at(n, number, prime) is None]
                self.assertEqual(worths.barred(5, number, prime), wanted)
                for n in range(1, 6):
                    told = [polys.at_prime(killers.binomial(n, r), number, prime) for r in range(1, n + 1)]
                    self.assertEqual(0 in told, n in wanted)

    def test_to_fifty(self):
        for prime in PRIMES:
            for number in numbers_by(prime, 100 + prime):
                wanted = oracles.barred(50, number, prime)
                self.assert_same_kind(self.in_time(worths.barred, 50, number, prime), wanted)
                for n in (7, 23, 49):
                    told = worths.barred(n, number, prime)
                    self.assert_same_kind(told, [size for size in wanted if size <= n])

    def test_the_first_one(self):
        for prime in PRIMES:
            for number in range(0, prime, 1 + prime // 20):
                first = worths.first_zero(number, prime)
                if first < 50:
                    self.assertEqual(worths.barred(50, number, prime)[0], first + 1)


class TestRanks(Case):

    def test_by_hand(self):
        self.assert_same_kind(worths.ranks(3, 1, 5), [(1, 1), (3, 1)])
        self.assert_same_kind(worths.ranks(1, 0, 5), [(1, 1)])
        self.assert_same_kind(worths.ranks(2, 0, 5), [(0, 0), (2, 1)])
        self.assert_same_kind(worths.left_size(3, 1, 5), 2)
        self.assert_same_kind(worths.left_size(2, 0, 5), 1)
        self.assert_same_kind(worths.left_size(3, 0, 5), 5)
        self.assertIs(worths.is_whole(3, 0, 5), True)
        self.assertIs(worths.is_whole(2, 0, 5), False)
        self.assertIs(worths.is_whole(3, 1, 5), False)
        self.assertIs(worths.is_whole(1, 0, 2), True)

    def test_against_the_tables(self):
        whole = set()
        for prime in PRIMES[:5] + [53, 97]:
            for number in numbers_by(prime, 200 + prime)[:9] + FAR[3:5]:
                for n in range(1, 6):
                    wanted = oracles.ranks(n, number, prime)
                    self.assert_same_kind(worths.ranks(n, number, prime), wanted)
                    self.assert_same_kind(worths.left_size(n, number, prime), sum(rank ** 2 for _, rank in wanted))
                    told = worths.is_whole(n, number, prime)
                    self.assertIs(told, all(rank == len(oracles.half_mats(n, k)) for k, rank in wanted))
                    whole.add((n, told))
        self.assertTrue({(n, told) for n in (2, 3, 4, 5) for told in (True, False)} <= whole)

    def test_at_six(self):
        for prime in (2, 5, 7, 97):
            for number in (0, 1, 2, 3, -BIG):
                wanted = oracles.ranks(6, number, prime)
                self.assert_same_kind(self.in_time(worths.ranks, 6, number, prime), wanted)
                told = self.in_time(worths.left_size, 6, number, prime)
                self.assert_same_kind(told, sum(rank ** 2 for _, rank in wanted))
                told = self.in_time(worths.is_whole, 6, number, prime)
                self.assertIs(told, [rank for _, rank in wanted] == [5, 9, 5, 1])

    def test_against_rank_at(self):
        for n in range(1, 7):
            for number, prime in ((0, 2), (1, 3), (4, 7), (BIG, 89), (-3, 11)):
                wanted = [(k, pairings.rank_at(n, k, number, prime)) for k in range(n & 1, n + 1, 2)]
                self.assertEqual(worths.ranks(n, number, prime), wanted)

    def test_all_mats_are_left_where_ranks_are_whole(self):
        for n, many in ((1, 1), (2, 2), (3, 5), (4, 14), (5, 42), (6, 132)):
            self.assertIs(worths.is_whole(n, 3, 97), True)
            self.assertEqual(worths.left_size(n, 3, 97), many)


class TestClosedRank(Case):

    def test_by_hand(self):
        self.assert_same_kind(worths.closed_rank(2, 0, 5), 0)
        self.assert_same_kind(worths.closed_rank(1, 1, 5), 1)
        self.assert_same_kind(worths.closed_rank(1, 5, 5), 0)
        self.assert_same_kind(worths.closed_rank(2, 1, 5), 1)
        self.assert_same_kind(worths.closed_rank(2, 3, 5), 2)
        self.assert_same_kind(worths.closed_rank(2, -1, 3), 1)

    def test_against_the_table(self):
        found = set()
        for prime in PRIMES[:5] + [53, 97]:
            for number in numbers_by(prime, 300 + prime)[:8] + FAR[3:5]:
                for n in range(1, 5):
                    wanted = oracles.closed_rank(n, number, prime)
                    self.assert_same_kind(self.in_time(worths.closed_rank, n, number, prime), wanted)
                    found.add((n, wanted))
        self.assertTrue({(4, 0), (4, 1), (4, 14), (3, 5), (3, 4)} <= found, found)


class TestErrors(Case):

    def test_wrong_primes(self):
        for prime in NO_PRIMES:
            for number in (0, 1, -1, BIG):
                self.assert_raised_itself(InvalidPrime, prime, worths.first_zero, number, prime)
                for call in OF_N:
                    for n in (1, 2, 4):
                        self.assert_raised_itself(InvalidPrime, prime, call, n, number, prime)

    def test_wrong_n_ahead_of_wrong_primes(self):
        for n in BELOW_ONE:
            for prime in (2, 97, 0, 4, -3, BIG):
                for call in OF_N:
                    self.assert_raised_itself(InvalidNumber, n, call, n, 3, prime)

    def test_right_behind_wrong(self):
        still = self.assert_answered_still
        still(worths.first_zero, (3, 7), (3, 8), (3, 1))
        for call in OF_N:
            still(call, (4, 1, 7), (0, 1, 7), (4, 1, 9), (-1, 1, 9))


class TestCalls(Case):

    def test_by_position_and_by_name(self):
        self.assert_by_name(worths.first_zero, number=3, prime=7)
        for call in OF_N:
            self.assert_by_name(call, n=4, number=3, prime=7)
            self.assert_by_name(call, n=2, number=-BIG, prime=5)

    def test_new_lists(self):
        for n in (1, 4):
            self.assert_new_lists(worths.barred, n, 0, 5)
            self.assert_new_lists(worths.ranks, n, 0, 5)
        self.assert_new_lists(worths.barred, 50, 3, 97)

    def test_what_was_told_may_be_passed_on(self):
        first = worths.first_zero(4, 13)
        self.assertEqual(worths.barred(first + 1, 4, 13), [first + 1])
        self.assertIsNone(killers.killer_at(worths.barred(5, 1, 5)[0], 1, 5))
        great = polys.at(polys.u_row(40)[39], BIG)
        self.assertEqual(worths.first_zero(great, 23), worths.first_zero(great % 23, 23))
        self.assertEqual(worths.ranks(4, great, 23), worths.ranks(4, great % 23, 23))
        self.assertEqual(worths.barred(50, -great, 3), worths.barred(50, -great % 3, 3))


if __name__ == "__main__":
    unittest.main()
