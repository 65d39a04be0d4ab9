"""mats.py, [4], [6] and [9]: what mats are, their lists, and what is made of one or two."""

import itertools
import unittest
from math import comb

from hookmats import mats
from hookmats.errors import InvalidHook, InvalidMat, InvalidNumber
from tests import oracles
from tests.checks import Case, NO_MATS

SOME = oracles.mats_to(8)
UNLIKE = (4, 2, (1, 0, 4, 5, 2, 3))
CAPS = (4, 0, (3, 2, 1, 0))
CUPS = (0, 4, (1, 0, 3, 2))
MAT_CALLS = [
    mats.rank, mats.upside_down, mats.left_right, mats.turned, mats.through, mats.upper_half,
    mats.lower_half, mats.strings,
]


class TestIsMat(Case):

    def test_all_mats_are(self):
        for mat in SOME:
            self.assertIs(mats.is_mat(mat), True, mat)

    def test_none_of_these_is(self):
        for why, told in NO_MATS.items():
            self.assertIs(mats.is_mat(told), False, why)

    def test_all_mates_of_four_pegs_with_all_numbers(self):
        for mates in itertools.product(range(-1, 5), repeat=4):
            for n in range(-1, 6):
                told = (n, 4 - n, mates)
                self.assertIs(mats.is_mat(told), oracles.is_mat(told), told)

    def test_all_pairings_of_eight_pegs_cross_as_the_words_say(self):
        for pegs in (2, 4, 6, 8):
            for pairs in oracles.matchings(tuple(range(pegs))):
                for n, m in oracles.shapes(pegs):
                    told = oracles.mat_of(n, m, pairs)
                    self.assertIs(mats.is_mat(told), oracles.is_mat(told), told)

    def test_numbers_that_do_not_fit_the_mates(self):
        mates = (2, 3, 0, 1)
        for n in range(-3, 7):
            for m in range(-3, 7):
                self.assertIs(mats.is_mat((n, m, mates)), (n, m) in ((2, 2),), (n, m))
        for n in range(-3, 7):
            for m in range(-3, 7):
                self.assertIs(mats.is_mat((n, m, (1, 0))), (n, m) in ((2, 0), (1, 1), (0, 2)), (n, m))

    def test_many_pegs(self):
        wide = tuple(range(8, 16)) + tuple(range(8))
        self.assertIs(mats.is_mat((8, 8, wide)), True)
        self.assertIs(mats.is_mat((8, 8, wide[:6] + (15, 14) + wide[8:14] + (7, 6))), False)
        self.assertIs(mats.is_mat((16, 0, wide)), False)
        self.assertIs(mats.is_mat((16, 0, tuple(range(15, -1, -1)))), True)
        self.assertIs(mats.is_mat((0, 16, tuple(range(15, -1, -1)))), True)


class TestStraightAndHook(Case):

    def test_straight(self):
        self.assert_same_kind(mats.straight(1), (1, 1, (1, 0)))
        self.assert_same_kind(mats.straight(3), (3, 3, (3, 4, 5, 0, 1, 2)))
        for n in range(1, 9):
            wanted = oracles.mat_of(n, n, [(i, n + i) for i in range(n)])
            self.assert_same_kind(mats.straight(n), wanted)

    def test_hook(self):
        self.assert_same_kind(mats.hook(2, 0), (2, 2, (1, 0, 3, 2)))
        self.assert_same_kind(mats.hook(4, 1), (4, 4, (4, 2, 1, 7, 0, 6, 5, 3)))
        for n in range(2, 9):
            for i in range(n - 1):
                pairs = [(j, n + j) for j in range(n) if j not in (i, i + 1)]
                wanted = oracles.mat_of(n, n, pairs + [(i, i + 1), (n + i, n + i + 1)])
                self.assert_same_kind(mats.hook(n, i), wanted)
                self.assertTrue(oracles.is_mat(mats.hook(n, i)))

    def test_wrong_n(self):
        for n in (0, -1, -(10 ** 30)):
            self.assert_raised_itself(InvalidNumber, n, mats.straight, n)
            for i in (0, -1, 5):
                self.assert_raised_itself(InvalidNumber, n, mats.hook, n, i)

    def test_wrong_hook(self):
        for n in range(1, 9):
            for i in (-1, -n, n - 1, n, n + 1, 10 ** 30):
                self.assert_raised_itself(InvalidHook, i, mats.hook, n, i)


class TestHowMany(Case):

    def test_small_ones_are_counted(self):
        for pegs in range(11):
            for n, m in oracles.shapes(pegs):
                self.assert_same_kind(mats.how_many(n, m), len(oracles.all_mats(n, m)))

    def test_up_to_the_bound(self):
        wanted = 1
        for h in range(1, 1001):
            wanted = wanted * 2 * (2 * h - 1) // (h + 1)
            self.assertEqual(wanted, comb(2 * h, h) // (h + 1))
            for n in (0, 1, h - 1, h, 2 * h):
                self.assert_same_kind(mats.how_many(n, 2 * h - n), wanted)

    def test_odd_numbers_and_no_pegs(self):
        for n, m in ((0, 0), (1, 0), (0, 1), (2, 1), (1, 2), (1000, 999), (0, 1999), (1999, 0)):
            self.assert_same_kind(mats.how_many(n, m), 0)

    def test_wrong_numbers(self):
        for call in (mats.how_many, mats.all_mats):
            self.assert_raised_itself(InvalidNumber, -1, call, -1, 1)
            self.assert_raised_itself(InvalidNumber, -3, call, 1, -3)
            self.assert_raised_itself(InvalidNumber, -1, call, -1, -2)
            self.assert_raised_itself(InvalidNumber, -2, call, -2, -1)
            self.assert_raised_itself(InvalidNumber, -2, call, 0, -2)
            self.assert_raised_itself(InvalidNumber, -4, call, -4, 0)
            self.assert_raised_itself(InvalidNumber, -1, call, 0, -1)
            self.assert_raised_itself(InvalidNumber, -1, call, 1, -1)
            self.assert_raised_itself(InvalidNumber, -1, call, 3, -1)


class TestAllMats(Case):

    def test_small_ones_are_listed(self):
        for pegs in range(11):
            for n, m in oracles.shapes(pegs):
                self.assert_same_kind(mats.all_mats(n, m), list(oracles.all_mats(n, m)))

    def test_up_to_the_bound(self):
        for pegs in (11, 12, 13, 14):
            for n, m in oracles.shapes(pegs):
                listed = mats.all_mats(n, m)
                self.assertEqual(listed, sorted(set(listed)))
                self.assertEqual(len(listed), comb(pegs, pegs // 2) // (pegs // 2 + 1) if pegs % 2 == 0 else 0)
                self.assertTrue(all(mat[:2] == (n, m) and mats.is_mat(mat) for mat in listed))

    def test_odd_numbers_and_no_pegs(self):
        for n, m in ((0, 0), (1, 0), (0, 1), (2, 1), (7, 6), (13, 0)):
            self.assert_same_kind(mats.all_mats(n, m), [])

    def test_the_list_is_new(self):
        for n, m in ((2, 2), (2, 1), (0, 0)):
            one, wanted = mats.all_mats(n, m), mats.all_mats(n, m)
            one.append("changed")
            one.reverse()
            self.assertEqual(mats.all_mats(n, m), wanted)
            self.assertIsNot(mats.all_mats(n, m), mats.all_mats(n, m))


class TestNthAndRank(Case):

    def test_they_go_with_the_list(self):
        for pegs in (2, 4, 6, 8, 10, 12, 14):
            for n, m in oracles.shapes(pegs):
                for number, mat in enumerate(mats.all_mats(n, m)):
                    self.assert_same_kind(mats.nth(n, m, number), mat)
                    self.assert_same_kind(mats.rank(mat), number)

    def test_an_index_that_there_is_not(self):
        for pegs in range(15):
            for n, m in oracles.shapes(pegs):
                many = mats.how_many(n, m)
                for number in (-1, -many - 1, many, many + 1, 10 ** 30, -(10 ** 30)):
                    self.assert_raised_itself(InvalidNumber, number, mats.nth, n, m, number)

    def test_nothing_is_counted_from_behind(self):
        self.assert_raised(InvalidNumber, -2, mats.nth, 2, 2, -2)

    def test_wrong_numbers_in_the_order_of_the_parameters(self):
        self.assert_raised(InvalidNumber, -1, mats.nth, -1, -2, -3)
        self.assert_raised(InvalidNumber, -2, mats.nth, 1, -2, -3)
        self.assert_raised(InvalidNumber, -2, mats.nth, 1, -2, 0)
        self.assert_raised(InvalidNumber, -1, mats.nth, -1, 1, 99)
        self.assert_raised(InvalidNumber, -1, mats.nth, 3, -1, 0)
        self.assert_raised(InvalidNumber, -3, mats.nth, 1, 1, -3)
        self.assert_raised(InvalidNumber, 0, mats.nth, 0, 0, 0)
        self.assert_raised(InvalidNumber, 0, mats.nth, 2, 1, 0)


class TestMirrors(Case):

    def test_upside_down(self):
        self.assert_same_kind(mats.upside_down(UNLIKE), (2, 4, (4, 5, 3, 2, 0, 1)))
        self.assert_same_kind(mats.upside_down(CAPS), (0, 4, (3, 2, 1, 0)))
        self.assert_same_kind(mats.upside_down(CUPS), (4, 0, (1, 0, 3, 2)))

    def test_left_right(self):
        self.assert_same_kind(mats.left_right(UNLIKE), (4, 2, (4, 5, 3, 2, 0, 1)))
        self.assert_same_kind(mats.left_right((3, 1, (1, 0, 3, 2))), (3, 1, (3, 2, 1, 0)))
        self.assert_same_kind(mats.left_right((4, 0, (1, 0, 3, 2))), (4, 0, (1, 0, 3, 2)))
        self.assert_same_kind(mats.left_right((0, 2, (1, 0))), (0, 2, (1, 0)))

    def test_each_string_goes_to_the_mirrored_pegs(self):
        for mat in SOME:
            n, m, mates = mat
            pairs = oracles.pairs_of(mates)
            down = {peg: m + peg if peg < n else peg - n for peg in range(n + m)}
            side = {peg: n - 1 - peg if peg < n else 2 * n + m - 1 - peg for peg in range(n + m)}
            self.assert_same_kind(
                mats.upside_down(mat), oracles.mat_of(m, n, [(down[p], down[q]) for p, q in pairs]))
            self.assert_same_kind(
                mats.left_right(mat), oracles.mat_of(n, m, [(side[p], side[q]) for p, q in pairs]))

    def test_twice_is_as_before(self):
        for mat in SOME:
            self.assertEqual(mats.upside_down(mats.upside_down(mat)), mat)
            self.assertEqual(mats.left_right(mats.left_right(mat)), mat)


class TestTurned(Case):

    def test_by_hand(self):
        self.assert_same_kind(mats.turned(mats.straight(2)), (2, 2, (1, 0, 3, 2)))
        self.assert_same_kind(mats.turned(mats.straight(1)), (1, 1, (1, 0)))
        self.assert_same_kind(mats.turned((6, 0, (1, 0, 5, 4, 3, 2))), (6, 0, (5, 4, 3, 2, 1, 0)))
        self.assert_same_kind(mats.turned((0, 6, (1, 0, 5, 4, 3, 2))), (0, 6, (3, 2, 1, 0, 5, 4)))
        # Round about 0 1 2 3 5 4: 0-1 becomes 4-0, 2-4 becomes 1-5, 3-5 becomes 2-3.
        self.assert_same_kind(mats.turned(UNLIKE), (4, 2, (4, 5, 3, 2, 0, 1)))

    def test_each_string_goes_to_the_pegs_ahead(self):
        for mat in SOME:
            n, m, mates = mat
            around = oracles.round_about(n, m)
            ahead = {peg: around[at - 1] for at, peg in enumerate(around)}
            pairs = [(ahead[p], ahead[q]) for p, q in oracles.pairs_of(mates)]
            self.assert_same_kind(mats.turned(mat), oracles.mat_of(n, m, pairs))
            self.assertTrue(oracles.is_mat(mats.turned(mat)))

    def test_as_often_as_there_are_pegs(self):
        for mat in SOME:
            now, seen = mat, []
            for _ in range(mat[0] + mat[1]):
                now = mats.turned(now)
                seen.append(now)
            self.assertEqual(now, mat)
            self.assertIn(mat, seen)


class TestBeside(Case):

    def test_by_hand(self):
        self.assert_same_kind(mats.beside(CAPS, CUPS), (4, 4, (3, 2, 1, 0, 5, 4, 7, 6)))
        self.assert_same_kind(mats.beside(CUPS, CAPS), (4, 4, (3, 2, 1, 0, 5, 4, 7, 6)))
        self.assert_same_kind(
            mats.beside((3, 1, (1, 0, 3, 2)), (1, 1, (1, 0))), (4, 2, (1, 0, 4, 5, 2, 3)))
        self.assert_same_kind(
            mats.beside((1, 1, (1, 0)), (3, 1, (1, 0, 3, 2))), (4, 2, (4, 2, 1, 5, 0, 3)))
        self.assert_same_kind(mats.beside((2, 0, (1, 0)), (2, 0, (1, 0))), (4, 0, (1, 0, 3, 2)))

    def test_left_is_the_one_and_right_the_other(self):
        few = oracles.mats_to(6)
        for one in few:
            for other in few:
                n, m = one[0] + other[0], one[1] + other[1]
                left = list(range(one[0])) + [n + j for j in range(one[1])]
                right = [one[0] + i for i in range(other[0])] + [n + one[1] + j for j in range(other[1])]
                pairs = [(left[p], left[q]) for p, q in oracles.pairs_of(one[2])]
                pairs += [(right[p], right[q]) for p, q in oracles.pairs_of(other[2])]
                self.assert_same_kind(mats.beside(one, other), oracles.mat_of(n, m, pairs))

    def test_up_to_the_bound(self):
        self.assertEqual(mats.beside(mats.straight(3), mats.straight(5)), mats.straight(8))
        self.assertEqual(mats.beside(mats.straight(5), mats.hook(3, 1)), mats.hook(8, 6))

    def test_the_first_that_is_no_mat(self):
        one, other = (1, 1, (0, 1)), (1, 1, (1, 1))
        self.assert_raised_itself(InvalidMat, one, mats.beside, one, other)
        self.assert_raised_itself(InvalidMat, other, mats.beside, CAPS, other)
        self.assert_raised_itself(InvalidMat, one, mats.beside, one, CAPS)


class TestHalves(Case):

    def test_through(self):
        for mat in SOME:
            n, _, mates = mat
            self.assert_same_kind(mats.through(mat), sum(p < n <= q for p, q in oracles.pairs_of(mates)))
        self.assertEqual(mats.through(mats.straight(8)), 8)
        self.assertEqual([mats.through(mat) for mat in (UNLIKE, CAPS, CUPS)], [2, 0, 0])

    def test_upper_half_by_hand(self):
        self.assert_same_kind(mats.upper_half(UNLIKE), UNLIKE)
        self.assert_same_kind(mats.upper_half(mats.hook(4, 1)), (4, 2, (4, 2, 1, 5, 0, 3)))
        self.assert_same_kind(mats.upper_half(mats.hook(2, 0)), (2, 0, (1, 0)))
        self.assert_same_kind(mats.upper_half(CAPS), CAPS)
        self.assert_same_kind(mats.upper_half((1, 3, (3, 2, 1, 0))), (1, 1, (1, 0)))

    def test_lower_half_by_hand(self):
        self.assert_same_kind(mats.lower_half(UNLIKE), (2, 2, (2, 3, 0, 1)))
        self.assert_same_kind(mats.lower_half((1, 3, (3, 2, 1, 0))), (3, 1, (1, 0, 3, 2)))
        self.assert_same_kind(mats.lower_half((1, 3, (1, 0, 3, 2))), (3, 1, (3, 2, 1, 0)))
        self.assert_same_kind(mats.lower_half(CUPS), (4, 0, (1, 0, 3, 2)))

    def test_halves_of_all(self):
        for mat in SOME:
            n, m, mates = mat
            going = [p for p in range(n) if mates[p] >= n]
            self.assertEqual(sorted(mates[p] for p in going), [mates[p] for p in going])
            if n:
                pairs = [(p, q) for p, q in oracles.pairs_of(mates) if q < n]
                pairs += [(p, n + at) for at, p in enumerate(going)]
                self.assert_same_kind(mats.upper_half(mat), oracles.mat_of(n, len(going), pairs))
            if m:
                ends = [mates[p] - n for p in going]
                pairs = [(p - n, q - n) for p, q in oracles.pairs_of(mates) if p >= n]
                pairs += [(p, m + at) for at, p in enumerate(ends)]
                self.assert_same_kind(mats.lower_half(mat), oracles.mat_of(m, len(going), pairs))

    def test_the_halves_put_together_are_the_mat(self):
        for mat in SOME:
            if mat[0] and mat[1]:
                lower = mats.upside_down(mats.lower_half(mat))
                self.assertEqual(oracles.joined(mats.upper_half(mat), lower), (0, mat))


class TestStrings(Case):

    def test_by_hand(self):
        self.assert_same_kind(mats.strings(UNLIKE), [(0, 1), (2, 4), (3, 5)])
        self.assert_same_kind(mats.strings(CAPS), [(0, 3), (1, 2)])
        self.assert_same_kind(mats.strings((1, 1, (1, 0))), [(0, 1)])

    def test_all(self):
        for mat in SOME:
            listed = mats.strings(mat)
            self.assertEqual(listed, sorted(listed))
            self.assert_same_kind(listed, oracles.pairs_of(mat[2]))

    def test_the_list_is_new(self):
        listed = mats.strings(CAPS)
        listed.clear()
        self.assertEqual(mats.strings(CAPS), [(0, 3), (1, 2)])


class TestCalls(Case):

    def test_no_mats(self):
        for call in MAT_CALLS:
            for told in NO_MATS.values():
                self.assert_raised_itself(InvalidMat, told, call, told)
                with self.assertRaises(InvalidMat):
                    call(mat=told)

    def test_by_position_and_by_name(self):
        for call in MAT_CALLS:
            for mat in (UNLIKE, mats.straight(2)):
                self.assert_by_name(call, mat=mat)
        self.assert_by_name(mats.is_mat, told=UNLIKE)
        self.assert_by_name(mats.is_mat, told=(1, 0, (0,)))
        self.assert_by_name(mats.straight, n=3)
        self.assert_by_name(mats.hook, n=3, i=1)
        self.assert_by_name(mats.how_many, n=3, m=1)
        self.assert_by_name(mats.all_mats, n=3, m=1)
        self.assert_by_name(mats.nth, n=3, m=1, number=1)
        self.assert_by_name(mats.beside, one=CAPS, other=UNLIKE)


if __name__ == "__main__":
    unittest.main()
