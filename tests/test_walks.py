"""walks.py, [13] and [9]: walks, the half mats that have them, and the mats that pairs of them tell."""

import itertools
import random
import unittest

from math import comb

from hookmats import joins, mats, pairings, walks
from hookmats.errors import InvalidMat, InvalidNumber, InvalidPair, InvalidWalk
from tests import oracles
from tests.checks import Case, NO_MATS, NO_WALKS

E, F, THREE = oracles.hook(3, 0), oracles.hook(3, 1), oracles.straight(3)
CAP, CUP = (2, 0, (1, 0)), (0, 2, (1, 0))
BELOW_0 = [-1, -2, -60, -(10 ** 30)]
BEYOND = 10 ** 30
NO_HALVES = [
    CUP, E, F, (0, 4, (3, 2, 1, 0)), (1, 3, (1, 0, 3, 2)), (1, 3, (3, 2, 1, 0)), (2, 2, (1, 0, 3, 2)),
    (2, 4, (1, 0, 3, 2, 5, 4)), (4, 2, (1, 0, 3, 2, 5, 4)), (4, 4, (4, 2, 1, 7, 0, 6, 5, 3)),
]
WALK_CALLS = [walks.half_of, walks.rank_walk, walks.sums_along, walks.returns]


def some_walks(n, many, seed):
    chance = random.Random(seed)
    return [oracles.some_walk(n, chance) for _ in range(many)]


def ended(n, k, chance):
    """A walk of n that ends at k."""
    walk = ()
    while len(walk) < n:
        now, left = sum(walk), n - len(walk)
        steps = [step for step in (1, -1) if now + step >= 0 and abs(k - now - step) < left]
        walk += (chance.choice(steps),)
    return walk


class TestIsWalk(Case):

    def test_by_hand(self):
        for told in ((), (1,), (1, -1), (1, 1), (1, -1, 1), (1, 1, -1, -1), (1, -1) * 30, (1,) * 60):
            self.assertIs(walks.is_walk(told), True)

    def test_none(self):
        for why, told in NO_WALKS.items():
            self.assertIs(walks.is_walk(told), False, why)

    def test_all_rows_of_few_steps(self):
        for n in range(11):
            for told in itertools.product((1, -1), repeat=n):
                self.assertIs(walks.is_walk(told), oracles.is_walk(told))
        for n in range(6):
            for told in itertools.product((1, -1, 0, 2, -2), repeat=n):
                self.assertIs(walks.is_walk(told), oracles.is_walk(told))

    def test_to_sixty_steps(self):
        for walk in some_walks(60, 60, 1):
            self.assertIs(walks.is_walk(walk), True)
            for at in (0, 1, 30, 58, 59):
                for step in (0, 2, -2, 10 ** 30, -(10 ** 30)):
                    self.assertIs(walks.is_walk(walk[:at] + (step,) + walk[at + 1:]), False)
        for at in range(0, 60, 2):
            told = (1, -1) * (at // 2) + (-1,) + (1,) * (59 - at)
            self.assertIs(walks.is_walk(told), False)


class TestHalves(Case):

    def test_by_hand(self):
        self.assert_same_kind(walks.walk_of((3, 1, (1, 0, 3, 2))), (1, -1, 1))
        self.assert_same_kind(walks.walk_of((3, 1, (3, 2, 1, 0))), (1, 1, -1))
        self.assert_same_kind(walks.walk_of(CAP), (1, -1))
        self.assert_same_kind(walks.walk_of((1, 1, (1, 0))), (1,))
        self.assert_same_kind(walks.half_of((1, 1, -1)), (3, 1, (3, 2, 1, 0)))
        self.assert_same_kind(walks.half_of((1, -1)), CAP)
        self.assert_same_kind(walks.half_of((1, 1, 1)), THREE)

    def test_all_half_mats(self):
        for n in range(1, 9):
            for k in range(n & 1, n + 1, 2):
                told = []
                for half in oracles.half_mats(n, k):
                    walk = walks.walk_of(half)
                    self.assert_same_kind(walk, oracles.walk_of(half))
                    self.assert_same_kind(walks.half_of(walk), half)
                    told.append(walk)
                self.assertEqual(sorted(told), [walk for walk in oracles.walks(n) if sum(walk) == k])

    def test_to_sixteen_pegs(self):
        chance = random.Random(2)
        for n in range(9, 17):
            for k in range(n & 1, 17 - n, 2):
                for walk in [ended(n, k, chance) for _ in range(12)]:
                    half = self.in_time(walks.half_of, walk)
                    self.assertTrue(oracles.is_mat(half))
                    self.assertEqual((half[:2], oracles.through(half)), ((n, k), k))
                    self.assert_same_kind(oracles.walk_of(half), walk)
                    self.assert_same_kind(walks.walk_of(half), walk)

    def test_as_many_as_walks(self):
        for n in range(1, 9):
            for k in range(n & 1, n + 1, 2):
                self.assertEqual(len(pairings.half_mats(n, k)), walks.how_many_walks(n, k))
        for n in range(1, 61):
            for k in range(n & 1, n + 1, 2):
                self.assertEqual(pairings.how_many_halves(n, k), walks.how_many_walks(n, k))


class TestHowMany(Case):

    def test_by_hand(self):
        for n, k, wanted in ((4, 2, 3), (0, 0, 1), (0, 1, 0), (1, 0, 0), (1, 1, 1), (2, 0, 1), (6, 0, 5), (3, 5, 0)):
            self.assert_same_kind(walks.how_many_walks(n, k), wanted)

    def test_against_a_plain_count(self):
        for n in range(61):
            for k in range(101):
                told = walks.how_many_walks(n, k)
                self.assert_same_kind(told, oracles.how_many_walks(n).get(k, 0))
                self.assertEqual(told == 0, k > n or (n - k) % 2 == 1)
        for n in range(11):
            for k in range(13):
                self.assertEqual(walks.how_many_walks(n, k), sum(sum(walk) == k for walk in oracles.walks(n)))

    def test_mats_are_as_many_as_pairs_of_walks_with_one_end(self):
        for n in range(9):
            for m in range(9):
                pairs = sum(walks.how_many_walks(n, k) * walks.how_many_walks(m, k) for k in range(max(n, m) + 1))
                self.assertEqual(mats.how_many(n, m) if n + m else 1, pairs)
        for n, m in ((60, 60), (60, 0), (0, 60), (59, 31), (60, 12), (1, 59), (60, 31)):
            pairs = sum(walks.how_many_walks(n, k) * walks.how_many_walks(m, k) for k in range(61))
            half = (n + m) // 2
            self.assertEqual(pairs, 0 if (n + m) % 2 else comb(2 * half, half) // (half + 1))
            self.assertEqual(mats.how_many(n, m), pairs)


class TestRanks(Case):

    def test_by_hand(self):
        self.assert_same_kind(walks.nth_walk(3, 1, 0), (1, -1, 1))
        self.assert_same_kind(walks.nth_walk(3, 1, 1), (1, 1, -1))
        self.assert_same_kind(walks.nth_walk(0, 0, 0), ())
        self.assert_same_kind(walks.nth_walk(5, 5, 0), (1,) * 5)
        self.assert_same_kind(walks.rank_walk(()), 0)
        self.assert_same_kind(walks.rank_walk((1, 1, -1)), 1)

    def test_against_a_plain_list(self):
        for n in range(11):
            for k in range(n + 1):
                told = [walk for walk in oracles.walks(n) if sum(walk) == k]
                for number, walk in enumerate(told):
                    self.assert_same_kind(walks.nth_walk(n, k, number), walk)
                    self.assert_same_kind(walks.rank_walk(walk), number)
                for number in (len(told), len(told) + 1, -1, -len(told), BEYOND, -BEYOND):
                    if number not in range(len(told)):
                        self.assert_raised_itself(InvalidNumber, number, walks.nth_walk, n, k, number)

    def test_there_and_back_at_sixty(self):
        chance = random.Random(3)
        for n in (57, 59, 60):
            for k in range(n & 1, n + 1, 2):
                many = oracles.how_many_walks(n)[k]
                numbers = [0, many - 1, many // 2] + [chance.randrange(many) for _ in range(4)]
                told = []
                for number in sorted(set(numbers)):
                    walk = self.in_time(walks.nth_walk, n, k, number)
                    self.assertTrue(oracles.is_walk(walk))
                    self.assertEqual((len(walk), sum(walk)), (n, k))
                    self.assert_same_kind(self.in_time(walks.rank_walk, walk), number)
                    told.append(walk)
                self.assertEqual(told, sorted(told))
                first = (1, -1) * ((n - k) // 2) + (1,) * k
                last = (1,) * ((n + k) // 2) + (-1,) * ((n - k) // 2)
                self.assert_same_kind((told[0], told[-1]), (first, last))
                for number in (many, many + 1, -1, -many, BEYOND):
                    self.assert_raised_itself(InvalidNumber, number, walks.nth_walk, n, k, number)

    def test_no_such_walk(self):
        for n, k in ((1, 0), (0, 1), (3, 2), (4, 6), (60, 59), (60, 62), (60, 100), (0, 100)):
            for number in (0, 1, -1, BEYOND):
                self.assert_raised_itself(InvalidNumber, number, walks.nth_walk, n, k, number)

    def test_walks_of_sixty_there_and_back(self):
        for walk in some_walks(60, 60, 4) + some_walks(43, 20, 5):
            number = self.in_time(walks.rank_walk, walk)
            self.assert_same_kind(walks.nth_walk(len(walk), sum(walk), number), walk)


class TestPairs(Case):

    def test_by_hand(self):
        self.assert_same_kind(walks.pair_of(E), ((1, -1, 1), (1, -1, 1)))
        self.assert_same_kind(walks.pair_of(oracles.joined(E, F)[1]), ((1, -1, 1), (1, 1, -1)))
        self.assert_same_kind(walks.pair_of(CAP), ((1, -1), ()))
        self.assert_same_kind(walks.pair_of(CUP), ((), (1, -1)))
        self.assert_same_kind(walks.mat_of((1, -1), (1, -1)), (2, 2, (1, 0, 3, 2)))
        self.assert_same_kind(walks.mat_of((1, 1), (1, 1)), (2, 2, (2, 3, 0, 1)))
        self.assert_same_kind(walks.mat_of((), (1, 1, -1, -1)), (0, 4, (3, 2, 1, 0)))
        self.assert_same_kind(walks.mat_of((1, -1), ()), CAP)

    def test_all_small_mats(self):
        for pegs in range(2, 11, 2):
            for n, m in oracles.shapes(pegs):
                for pair, told in oracles.mats_by_walks(n, m).items():
                    self.assertEqual(len(told), 1)
                    self.assert_same_kind(walks.pair_of(told[0]), pair)
                    self.assert_same_kind(walks.mat_of(*pair), told[0])

    def test_all_pairs_of_walks(self):
        for pegs in range(2, 11, 2):
            for n, m in oracles.shapes(pegs):
                pairs = [pair for pair in itertools.product(oracles.walks(n), oracles.walks(m))
                         if sum(pair[0]) == sum(pair[1])]
                self.assertEqual(sorted(walks.mat_of(*pair) for pair in pairs), list(oracles.all_mats(n, m)))

    def test_of_the_halves(self):
        for mat in oracles.mats_to(8):
            one, other = walks.pair_of(mat)
            if mat[0]:
                self.assertEqual(one, walks.walk_of(mats.upper_half(mat)))
                self.assertEqual(walks.half_of(one), mats.upper_half(mat))
            if mat[1]:
                self.assertEqual(other, walks.walk_of(mats.lower_half(mat)))
                self.assertEqual(walks.half_of(other), mats.lower_half(mat))
            self.assertEqual(walks.pair_of(mats.upside_down(mat)), (other, one))

    def test_sixteen_pegs(self):
        chance = random.Random(6)
        for n in range(17):
            for mat in [oracles.some_mat(n, 16 - n, chance) for _ in range(12)]:
                wanted = (oracles.upper_walk(mat), oracles.upper_walk(oracles.flipped(mat)))
                self.assert_same_kind(self.in_time(walks.pair_of, mat), wanted)
                self.assert_same_kind(self.in_time(walks.mat_of, *wanted), mat)

    def test_a_mat_and_it_upside_down_and_it_again(self):
        for mat in oracles.mats_to(10):
            if mat[0] and mat[1]:
                row = [mat, mats.upside_down(mat), mat]
                self.assertEqual(joins.joined_all(row)[1], mat)
                self.assertEqual(walks.pair_of(joins.joined_all(row)[1]), walks.pair_of(mat))
        chance = random.Random(7)
        for n in range(1, 16):
            for mat in [oracles.some_mat(n, 16 - n, chance) for _ in range(25)]:
                self.assertEqual(joins.joined_all([mat, mats.upside_down(mat), mat])[1], mat)


class TestSums(Case):

    def test_by_hand(self):
        self.assert_same_kind(walks.sums_along((1, 1, -1)), [0, 1, 2, 1])
        self.assert_same_kind(walks.sums_along(()), [0])
        self.assert_same_kind(walks.returns((1, -1, 1, -1)), 2)
        for walk, wanted in (((), 0), ((1,), 0), ((1, -1), 1), ((1, 1, -1, -1), 1), ((1, -1, 1, 1), 1)):
            self.assert_same_kind(walks.returns(walk), wanted)

    def assert_sums(self, walk):
        wanted = [sum(walk[:at]) for at in range(len(walk) + 1)]
        self.assert_same_kind(walks.sums_along(walk), wanted)
        self.assert_same_kind(walks.returns(walk), sum(told == 0 for told in wanted[1:]))

    def test_all_of_few_steps(self):
        for n in range(11):
            for walk in oracles.walks(n):
                self.assert_sums(walk)

    def test_to_sixty_steps(self):
        for n in (15, 16, 33, 59, 60):
            for walk in some_walks(n, 30, 100 + n) + [(1,) * n, ((1, -1) * 30)[:n]]:
                self.assert_sums(walk)

    def test_rows_by_hand(self):
        for h, wanted in ((0, [1]), (1, [0, 1]), (2, [0, 1, 1]), (3, [0, 2, 2, 1]), (4, [0, 5, 5, 3, 1])):
            self.assert_same_kind(walks.returns_row(h), wanted)

    def test_rows_against_all_walks(self):
        for h in range(8):
            told = [walks.returns(walk) for walk in oracles.walks(2 * h) if sum(walk) == 0]
            self.assert_same_kind(walks.returns_row(h), [told.count(many) for many in range(h + 1)])

    def test_rows_to_thirty(self):
        row = {(0, 0): 1}
        for steps in range(61):
            if steps % 2 == 0:
                h = steps // 2
                wanted = [row.get((0, many), 0) for many in range(h + 1)]
                self.assert_same_kind(self.in_time(walks.returns_row, h), wanted)
            further = {}
            for (now, many), ways in row.items():
                for end in (now - 1, now + 1):
                    if end >= 0:
                        place = (end, many + (end == 0))
                        further[place] = further.get(place, 0) + ways
            row = further


class TestErrors(Case):

    def test_no_walks(self):
        for told in NO_WALKS.values():
            for call in WALK_CALLS:
                self.assert_raised_itself(InvalidWalk, told, call, told)
            for right in ((1, -1), (1, 1), (1,), ()):
                self.assert_raised_itself(InvalidWalk, told, walks.mat_of, told, right)
                self.assert_raised_itself(InvalidWalk, told, walks.mat_of, right, told)
            for other in ((-1, 1), (0,)):
                self.assert_raised_itself(InvalidWalk, told, walks.mat_of, told, other)

    def test_the_first_no_walk(self):
        one, other = (-1, 1), (1, -1, -1)
        self.assert_raised_itself(InvalidWalk, one, walks.mat_of, one, other)
        self.assert_raised_itself(InvalidWalk, other, walks.mat_of, other, one)

    def test_no_mats(self):
        for told in NO_MATS.values():
            for call in (walks.walk_of, walks.pair_of):
                self.assert_raised_itself(InvalidMat, told, call, told)

    def test_no_half_mats(self):
        for told in NO_HALVES:
            self.assertTrue(oracles.is_mat(told))
            self.assert_raised_itself(InvalidMat, told, walks.walk_of, told)
        for mat in oracles.mats_to(8):
            if oracles.through(mat) != mat[1]:
                self.assert_raised_itself(InvalidMat, mat, walks.walk_of, mat)

    def test_below_0(self):
        for number in BELOW_0:
            self.assert_raised_itself(InvalidNumber, number, walks.returns_row, number)
            for other in [0, 1, 60, 100] + BELOW_0:
                self.assert_raised_itself(InvalidNumber, number, walks.how_many_walks, number, other)
                for index in (0, -1, BEYOND):
                    self.assert_raised_itself(InvalidNumber, number, walks.nth_walk, number, other, index)
            for n in (0, 1, 2, 60):
                self.assert_raised_itself(InvalidNumber, number, walks.how_many_walks, n, number)
                for index in (0, -1, BEYOND):
                    self.assert_raised_itself(InvalidNumber, number, walks.nth_walk, n, number, index)

    def test_walks_with_other_ends(self):
        self.assert_raised(InvalidPair, (1, 0), walks.mat_of, (1,), (1, -1))
        self.assert_raised(InvalidPair, (0, 2), walks.mat_of, (), (1, 1))
        self.assert_raised(InvalidPair, (3, 0), walks.mat_of, (1, 1, 1), ())
        for n in range(6):
            for m in range(6):
                for one, other in itertools.product(oracles.walks(n), oracles.walks(m)):
                    if sum(one) != sum(other):
                        self.assert_raised(InvalidPair, (sum(one), sum(other)), walks.mat_of, one, other)

    def test_right_behind_wrong(self):
        still = self.assert_answered_still
        still(walks.walk_of, ((3, 1, (3, 2, 1, 0)),), (E,), ((1, 1, (0, 1)),))
        for call in WALK_CALLS:
            still(call, ((1, 1, -1),), ((1, -1, -1),), ((2,),))
        still(walks.how_many_walks, (6, 2), (-1, 2), (6, -2))
        still(walks.nth_walk, (6, 2, 4), (6, 2, 9), (6, 2, -1), (6, -2, 4), (-6, 2, 4), (6, 3, 0))
        still(walks.pair_of, (E,), ((1, 1, (0, 1)),))
        still(walks.mat_of, ((1, 1, -1), (1,)), ((1, 1), (1,)), ((-1,), (1,)), ((1,), (0, 1)))
        still(walks.returns_row, (4,), (-1,))


class TestCalls(Case):

    def test_by_position_and_by_name(self):
        self.assert_by_name(walks.is_walk, told=(1, -1))
        self.assert_by_name(walks.walk_of, half=(3, 1, (3, 2, 1, 0)))
        for call in WALK_CALLS:
            self.assert_by_name(call, walk=(1, -1, 1))
        self.assert_by_name(walks.how_many_walks, n=6, k=2)
        self.assert_by_name(walks.nth_walk, n=6, k=2, number=3)
        self.assert_by_name(walks.pair_of, mat=oracles.joined(E, F)[1])
        self.assert_by_name(walks.mat_of, one=(1, 1, -1), other=(1, -1, 1))
        self.assert_by_name(walks.returns_row, h=4)

    def test_new_lists(self):
        for walk in ((), (1,), (1, -1, 1)):
            self.assert_new_lists(walks.sums_along, walk)
        for h in (0, 1, 2, 5, 30):
            self.assert_new_lists(walks.returns_row, h)

    def test_what_was_told_may_be_passed_on(self):
        many = walks.how_many_walks(60, 0)
        walk = walks.nth_walk(60, 0, many - 1)
        self.assertEqual(walks.rank_walk(walk), many - 1)
        self.assertEqual(walks.returns(walk), 1)
        mat = walks.mat_of(*walks.pair_of(E))
        self.assertEqual(walks.half_of(walks.walk_of(mats.upper_half(mat))), mats.upper_half(E))


if __name__ == "__main__":
    unittest.main()
