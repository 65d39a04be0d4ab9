"""pairings.py, [13] and [9]: half mats, their pairings, and the tables of these."""

import itertools
import unittest

from hookmats import pairings
from hookmats.errors import InvalidMat, InvalidNumber, InvalidPair, InvalidPrime
from tests import oracles
from tests.checks import BELOW_ONE, Case, NO_MATS, NO_PRIMES, PRIMES

BIG = 10 ** 30 - 1
NUMBERS = (0, 1, 2, -1, -2, -97, BIG, -BIG, 10 ** 29 + 9)
# Mats that are no half mats: a string ends below that does not go through.
NO_HALVES = [
    (0, 2, (1, 0)), (2, 2, (1, 0, 3, 2)), (1, 3, (1, 0, 3, 2)), (1, 3, (3, 2, 1, 0)), (3, 3, (1, 0, 5, 4, 3, 2)),
    (0, 4, (3, 2, 1, 0)), (2, 4, (2, 5, 0, 4, 3, 1)), (4, 2, (1, 0, 3, 2, 5, 4)), (4, 2, (3, 2, 1, 0, 5, 4)),
]
LISTS = [pairings.half_mats, pairings.how_many_halves, pairings.pairing_table, pairings.determinant,
         pairings.told_determinant]
AT_PRIME = [pairings.rank_at, pairings.nulls_at]


def sizes(n):
    """All (n, k) to an n that have half mats."""
    return [(size, k) for size in range(1, n + 1) for k in range(size % 2, size + 1, 2)]


def plain_table(n, k):
    halves = oracles.half_mats(n, k)
    return [[oracles.pairing(one, other) for other in halves] for one in halves]


def table_at(n, k, number, prime):
    return [[oracles.value_at(poly, number) % prime for poly in row] for row in plain_table(n, k)]


def first(row):
    return next(at for at, number in enumerate(row) if number)


class TestHalfMats(Case):

    def test_by_hand(self):
        self.assert_same_kind(pairings.half_mats(3, 1), [(3, 1, (1, 0, 3, 2)), (3, 1, (3, 2, 1, 0))])
        self.assert_same_kind(pairings.half_mats(2, 0), [(2, 0, (1, 0))])
        self.assert_same_kind(pairings.half_mats(2, 2), [(2, 2, (2, 3, 0, 1))])
        self.assert_same_kind(pairings.half_mats(1, 1), [(1, 1, (1, 0))])

    def test_among_all_mats(self):
        for n in range(1, 11):
            for k in range(n % 2, min(n, 10 - n) + 1, 2):
                wanted = [mat for mat in oracles.all_mats(n, k) if oracles.through(mat) == k]
                self.assert_same_kind(pairings.half_mats(n, k), wanted)

    def test_to_the_bound(self):
        for n, k in sizes(8):
            told = self.in_time(pairings.half_mats, n, k)
            self.assert_same_kind(told, list(oracles.half_mats(n, k)))
            self.assertEqual(pairings.how_many_halves(n, k), len(told))

    def test_none_or_all_go_through(self):
        for n in range(1, 9):
            self.assert_same_kind(pairings.half_mats(n, n), [oracles.straight(n)])
        for h in range(1, 5):
            self.assert_same_kind(pairings.half_mats(2 * h, 0), list(oracles.all_mats(2 * h, 0)))


class TestHowManyHalves(Case):

    def test_by_hand(self):
        for n, k, wanted in ((1, 1, 1), (2, 0, 1), (3, 1, 2), (4, 2, 3), (4, 0, 2), (6, 2, 9), (8, 4, 20), (8, 0, 14)):
            self.assert_same_kind(pairings.how_many_halves(n, k), wanted)

    def test_to_the_bound(self):
        # Peg by peg: how many beginnings have so many strings that go on.
        row = {0: 1}
        for n in range(1, 1001):
            row = {k: row.get(k - 1, 0) + row.get(k + 1, 0) for k in range(n % 2, n + 1, 2)}
            if n < 60 or n > 996 or n % 97 == 0:
                for k, wanted in row.items():
                    self.assert_same_kind(pairings.how_many_halves(n, k), wanted)
        self.assertEqual(len(str(self.in_time(pairings.how_many_halves, 1000, 0))), 297)


class TestPairing(Case):

    def test_by_hand(self):
        flat, wide = (4, 0, (1, 0, 3, 2)), (4, 0, (3, 2, 1, 0))
        self.assert_same_kind(pairings.pairing(flat, flat), (0, 0, 1))
        self.assert_same_kind(pairings.pairing(flat, wide), (0, 1))
        left, right = (3, 1, (1, 0, 3, 2)), (3, 1, (3, 2, 1, 0))
        self.assert_same_kind(pairings.pairing(left, left), (0, 1))
        self.assert_same_kind(pairings.pairing(left, right), (1,))
        # The two that go through one of them come back by the other.
        ahead, behind = (4, 2, (1, 0, 4, 5, 2, 3)), (4, 2, (4, 5, 3, 2, 0, 1))
        self.assert_same_kind(pairings.pairing(ahead, behind), ())
        self.assert_same_kind(pairings.pairing(oracles.straight(5), oracles.straight(5)), (1,))

    def test_any_two(self):
        nothing = 0
        for n, k in sizes(7):
            for one in oracles.half_mats(n, k):
                for other in oracles.half_mats(n, k):
                    told = pairings.pairing(one, other)
                    self.assert_same_kind(told, oracles.pairing(one, other))
                    self.assertEqual(pairings.pairing(other, one), told)
                    nothing += told == ()
        self.assertGreater(nothing, 50)

    def test_itself_alone_has_all_rings(self):
        for n, k in sizes(8):
            rings = (n - k) // 2
            for at, one in enumerate(oracles.half_mats(n, k)):
                self.assert_same_kind(pairings.pairing(one, one), (0,) * rings + (1,))
                for other in oracles.half_mats(n, k)[:at]:
                    self.assertLess(len(pairings.pairing(one, other)), rings + 1)


class TestTable(Case):

    def test_by_hand(self):
        self.assert_same_kind(pairings.pairing_table(3, 1), [[(0, 1), (1,)], [(1,), (0, 1)]])
        self.assert_same_kind(pairings.pairing_table(1, 1), [[(1,)]])
        self.assert_same_kind(pairings.pairing_table(4, 0), [[(0, 0, 1), (0, 1)], [(0, 1), (0, 0, 1)]])

    def test_to_the_bound(self):
        for n, k in sizes(8):
            told = self.in_time(pairings.pairing_table, n, k)
            self.assertEqual([list(column) for column in zip(*told)], told)
            self.assertEqual(len(told), pairings.how_many_halves(n, k))
            if n < 8 or k in (0, 6, 8):
                self.assert_same_kind(told, plain_table(n, k))
        halves = oracles.half_mats(8, 2)
        told = pairings.pairing_table(8, 2)
        for at, to in itertools.product(range(0, 28, 3), range(28)):
            self.assert_same_kind(told[at][to], oracles.pairing(halves[at], halves[to]))


class TestDeterminant(Case):

    def test_by_hand(self):
        self.assert_same_kind(pairings.determinant(3, 1), (-1, 0, 1))
        self.assert_same_kind(pairings.determinant(2, 0), (0, 1))
        # w ** 4 - w ** 2; and of 4 and 2 that of ((w, 1, 0), (1, w, 1), (0, 1, w)).
        self.assert_same_kind(pairings.determinant(4, 0), (0, 0, -1, 0, 1))
        self.assert_same_kind(pairings.determinant(4, 2), (0, -2, 0, 1))
        for n in range(1, 7):
            self.assert_same_kind(pairings.determinant(n, n), (1,))

    def test_against_a_plain_expansion(self):
        for n, k in sizes(6):
            told = self.in_time(pairings.determinant, n, k)
            self.assert_same_kind(told, oracles.determinant(plain_table(n, k)))

    def test_it_is_the_product_that_is_told(self):
        for n, k in sizes(6):
            told = pairings.told_determinant(n, k)
            tops = [oracles.u(k + j) for j, times in told for _ in range(times)]
            bottoms = [oracles.u(j - 1) for j, times in told for _ in range(times)]
            whole = oracles.times(pairings.determinant(n, k), oracles.product_of(bottoms))
            self.assertEqual(whole, oracles.product_of(tops))

    def test_told(self):
        self.assert_same_kind(pairings.told_determinant(3, 1), [(1, 1)])
        self.assert_same_kind(pairings.told_determinant(6, 0), [(1, 9), (2, 5), (3, 1)])
        self.assert_same_kind(pairings.told_determinant(6, 2), [(1, 5), (2, 1)])
        for n, k in sizes(8):
            wanted = [(j, len(oracles.half_mats(n, k + 2 * j))) for j in range(1, (n - k) // 2 + 1)]
            self.assert_same_kind(self.in_time(pairings.told_determinant, n, k), wanted)
        for n in range(1, 9):
            self.assert_same_kind(pairings.told_determinant(n, n), [])


class TestRanksAndNulls(Case):

    def assert_right(self, n, k, number, prime):
        table = table_at(n, k, number, prime)
        rank, nulls = pairings.rank_at(n, k, number, prime), pairings.nulls_at(n, k, number, prime)
        self.assert_same_kind(rank, oracles.rank(table, prime))
        self.assertIs(nulls.__class__, list)
        self.assertEqual(len(nulls), len(table) - rank)
        for row in nulls:
            self.assertEqual(len(row), len(table))
            self.assert_same_kind(row, [int(remainder) for remainder in row])
            self.assertTrue(all(0 <= remainder < prime for remainder in row))
            for column in zip(*table):
                self.assertEqual(sum(a * b for a, b in zip(row, column)) % prime, 0)
        places = [first(row) for row in nulls]
        self.assertEqual(places, sorted(set(places)))
        for at, place in enumerate(places):
            self.assertEqual([row[place] for row in nulls], [int(to == at) for to in range(len(nulls))])
        return len(nulls)

    def test_by_hand(self):
        self.assert_same_kind(pairings.rank_at(3, 1, 1, 5), 1)
        self.assert_same_kind(pairings.nulls_at(3, 1, 1, 5), [[1, 4]])
        self.assert_same_kind(pairings.rank_at(3, 1, 4, 5), 1)
        self.assert_same_kind(pairings.nulls_at(3, 1, 4, 5), [[1, 1]])
        self.assert_same_kind(pairings.rank_at(2, 0, 0, 7), 0)
        self.assert_same_kind(pairings.nulls_at(2, 0, 0, 7), [[1]])
        self.assert_same_kind(pairings.nulls_at(4, 0, 0, 7), [[1, 0], [0, 1]])
        self.assert_same_kind(pairings.rank_at(4, 2, 0, 3), 2)
        self.assert_same_kind(pairings.nulls_at(4, 2, 0, 3), [[1, 0, 2]])
        self.assert_same_kind(pairings.nulls_at(3, 1, 2, 5), [])
        self.assert_same_kind(pairings.rank_at(3, 1, 2, 5), 2)
        for n in range(1, 7):
            self.assert_same_kind(pairings.nulls_at(n, n, 0, 2), [])
            self.assert_same_kind(pairings.rank_at(n, n, 0, 2), 1)

    def test_small_primes(self):
        found = set()
        for n, k in sizes(6):
            for prime in (2, 3, 5, 7):
                for number in range(prime):
                    found.add(self.assert_right(n, k, number, prime))
        self.assertEqual(found, {0, 1, 2, 4, 5})

    def test_great_primes(self):
        found = set()
        for n, k in sizes(6):
            for prime in (97, 89, 41):
                for number in range(0, prime, 1 if n == 4 else 12):
                    found.add(self.assert_right(n, k, number, prime))
            for prime in PRIMES:
                found.add(self.assert_right(n, k, 1, prime))
        self.assertGreater(len(found), 3)

    def test_numbers_below_0_and_of_thirty_digits(self):
        for n, k in sizes(6):
            for prime in (2, 3, 97):
                for number in NUMBERS:
                    self.assert_right(n, k, number, prime)
                    for call in AT_PRIME:
                        self.assertEqual(call(n, k, number, prime), call(n, k, number % prime, prime))

    def test_all_rows_that_the_table_makes_0(self):
        for n, k in sizes(5):
            for prime in (2, 3):
                for number in range(prime):
                    table = table_at(n, k, number, prime)
                    if len(table) > 6:
                        continue
                    wanted = [
                        row for row in itertools.product(range(prime), repeat=len(table))
                        if not any(sum(a * b for a, b in zip(row, column)) % prime for column in zip(*table))]
                    nulls = pairings.nulls_at(n, k, number, prime)
                    sums = {
                        tuple(sum(a * row[at] for a, row in zip(factors, nulls)) % prime for at in range(len(table)))
                        for factors in itertools.product(range(prime), repeat=len(nulls))}
                    self.assertEqual(sorted(sums), sorted(wanted))

    def test_as_many_as_the_determinant_tells(self):
        for n, k in sizes(6):
            poly = oracles.determinant(plain_table(n, k))
            for prime, number in itertools.product((2, 5, 97), range(8)):
                whole = pairings.rank_at(n, k, number, prime) == pairings.how_many_halves(n, k)
                self.assertEqual(whole, oracles.value_at(poly, number) % prime != 0)

    def test_in_good_time(self):
        for k in (0, 2, 4, 6):
            for number in (0, 1, 2, BIG):
                self.in_time(pairings.rank_at, 6, k, number, 97)
                self.in_time(pairings.nulls_at, 6, k, number, 97)


class TestErrors(Case):

    def test_wrong_n(self):
        for n in BELOW_ONE:
            for k in (0, -1, 1, n, 10 ** 30):
                for call in LISTS:
                    self.assert_raised_itself(InvalidNumber, n, call, n, k)
                for call in AT_PRIME:
                    for prime in (5, 4, 0):
                        self.assert_raised_itself(InvalidNumber, n, call, n, k, 3, prime)

    def test_wrong_k(self):
        for n in range(1, 9):
            wrong = [k for k in range(-4, n + 5) if not 0 <= k <= n or (n - k) % 2]
            for k in wrong + [10 ** 30, -(10 ** 30), 10 ** 30 + 1]:
                for call in LISTS:
                    self.assert_raised_itself(InvalidNumber, k, call, n, k)
                for call in AT_PRIME:
                    for prime in (5, 4, -2):
                        self.assert_raised_itself(InvalidNumber, k, call, n, k, 3, prime)
        for k in (-2, 1, 999, 1001, 1002):
            self.assert_raised_itself(InvalidNumber, k, pairings.how_many_halves, 1000, k)

    def test_no_primes(self):
        for n, k in sizes(6):
            for prime in NO_PRIMES:
                for call in AT_PRIME:
                    self.assert_raised_itself(InvalidPrime, prime, call, n, k, BIG, prime)

    def test_no_half_mats(self):
        right = (3, 1, (1, 0, 3, 2))
        self.assertTrue(all(oracles.is_mat(mat) for mat in NO_HALVES))
        told = list(NO_MATS.values()) + NO_HALVES
        for wrong in told:
            self.assert_raised_itself(InvalidMat, wrong, pairings.pairing, wrong, right)
            self.assert_raised_itself(InvalidMat, wrong, pairings.pairing, right, wrong)
            self.assert_raised_itself(InvalidMat, wrong, pairings.pairing, wrong, wrong)
            for other in (told[0], told[-1], told[20], NO_HALVES[1]):
                self.assert_raised_itself(InvalidMat, wrong, pairings.pairing, wrong, other)
        for mat in oracles.mats_to(8):
            if oracles.through(mat) != mat[1]:
                self.assert_raised_itself(InvalidMat, mat, pairings.pairing, mat, mat)
            else:
                self.assertTrue(pairings.pairing(mat, mat))

    def test_wrong_pairs(self):
        halves = [oracles.half_mats(n, k)[-1] for n, k in sizes(6)]
        for one in halves:
            for other in halves:
                if one[0] != other[0]:
                    self.assert_raised(InvalidPair, (one[0], other[0]), pairings.pairing, one, other)
                elif one[1] != other[1]:
                    self.assert_raised(InvalidPair, (one[1], other[1]), pairings.pairing, one, other)
        # What is no half mat comes ahead.
        self.assert_raised_itself(InvalidMat, NO_HALVES[1], pairings.pairing, oracles.straight(3), NO_HALVES[1])
        self.assert_raised_itself(InvalidMat, NO_HALVES[1], pairings.pairing, NO_HALVES[1], oracles.straight(3))

    def test_right_behind_wrong(self):
        still = self.assert_answered_still
        left, right = (3, 1, (1, 0, 3, 2)), (3, 1, (3, 2, 1, 0))
        for call in LISTS:
            still(call, (4, 2), (0, 0), (4, 1), (4, 6), (4, -2))
        for call in AT_PRIME:
            still(call, (4, 2, 0, 3), (0, 0, 0, 3), (4, 1, 0, 3), (4, 2, 0, 4))
        still(pairings.pairing, (left, right), (left, NO_HALVES[1]), (NO_HALVES[1], left), (left, oracles.straight(3)),
              (left, (1, 1, (1, 0))))


class TestCalls(Case):

    def test_by_position_and_by_name(self):
        for call in LISTS:
            self.assert_by_name(call, n=5, k=1)
        for call in AT_PRIME:
            self.assert_by_name(call, n=4, k=2, number=0, prime=3)
        self.assert_by_name(pairings.pairing, one=(4, 2, (1, 0, 4, 5, 2, 3)), other=(4, 2, (4, 2, 1, 5, 0, 3)))

    def test_new_lists(self):
        for n, k in sizes(5):
            for call in (pairings.half_mats, pairings.pairing_table, pairings.told_determinant):
                self.assert_new_lists(call, n, k)
            for number in (0, 1, 2):
                self.assert_new_lists(pairings.nulls_at, n, k, number, 3)

    def test_what_was_told_may_be_passed_on(self):
        for n, k in sizes(5):
            halves = pairings.half_mats(n, k)
            self.assertEqual(pairings.pairing_table(n, k), [[pairings.pairing(a, b) for b in halves] for a in halves])
            self.assertEqual(len(halves), pairings.how_many_halves(n, k))


if __name__ == "__main__":
    unittest.main()
