"""joins.py, [5] and [9]: mats put one behind another."""

import copy
import unittest

from hookmats import joins
from hookmats.errors import InvalidMat, InvalidNumber, InvalidPair, NotSquare
from hookmats.mats import all_mats, beside, hook, straight, upside_down
from tests import oracles
from tests.checks import Case, NO_MATS

BAD, WORSE, WORST = (1, 1, (0, 1)), (1, 1, (1, 1)), (2, 2, (3, 2, 1, 0))
CAP, CUP = (2, 0, (1, 0)), (0, 2, (1, 0))
THREE_ONE, ONE_THREE = (3, 1, (1, 0, 3, 2)), (1, 3, (3, 2, 1, 0))
SQUARES = oracles.squares_to(4)


def neighbours(pegs):
    """All pairs of mats of at most so many pegs that may be put behind one another."""
    for one in oracles.mats_to(pegs):
        for other in oracles.mats_to(pegs):
            if one[1] == other[0] and one[0] + other[1]:
                yield one, other


class TestJoined(Case):

    def test_by_hand(self):
        e, f = hook(3, 0), hook(3, 1)
        self.assert_same_kind(joins.joined(e, e), (1, e))
        self.assert_same_kind(joins.joined(e, f), (0, (3, 3, (1, 0, 3, 2, 5, 4))))
        self.assert_same_kind(joins.joined(THREE_ONE, ONE_THREE), (0, e))
        self.assert_same_kind(joins.joined(ONE_THREE, THREE_ONE), (1, (1, 1, (1, 0))))
        self.assert_same_kind(joins.joined(CAP, CUP), (0, (2, 2, (1, 0, 3, 2))))
        self.assert_same_kind(joins.joined(hook(2, 0), CAP), (1, CAP))
        self.assert_same_kind(joins.joined(CUP, hook(2, 0)), (1, CUP))

    def test_all_small_ones(self):
        for one, other in neighbours(6):
            self.assert_same_kind(joins.joined(one, other), oracles.joined(one, other))

    def test_squares_of_four(self):
        squares = all_mats(4, 4)
        for one in squares:
            for other in squares:
                self.assert_same_kind(joins.joined(one, other), oracles.joined(one, other))

    def test_sixteen_pegs_and_more_than_come(self):
        many = all_mats(1, 9)
        few = all_mats(9, 1)
        for one, other in zip(few, many):
            rings, mat = joins.joined(one, other)
            self.assertEqual(mat[:2], (9, 9))
            self.assertEqual((rings, mat), oracles.joined(one, other))
        arch = tuple(range(15, -1, -1))
        self.assertEqual(
            joins.joined((16, 0, arch), (0, 16, arch)),
            (0, (16, 16, arch + tuple(31 - p for p in range(16)))))

    def test_many_rings(self):
        pairs = [(2 * i, 2 * i + 1) for i in range(7)]
        cups, caps = oracles.mat_of(0, 14, pairs), oracles.mat_of(14, 0, pairs)
        self.assertEqual(joins.joined(beside(straight(1), cups), beside(straight(1), caps)), (7, straight(1)))
        nested = oracles.mat_of(14, 0, [(i, 13 - i) for i in range(7)])
        self.assertEqual(joins.joined(beside(straight(1), cups), beside(straight(1), nested))[0], 4)

    def test_straight_mats_change_nothing(self):
        for mat in oracles.mats_to(8):
            if mat[0]:
                self.assertEqual(joins.joined(straight(mat[0]), mat), (0, mat))
            if mat[1]:
                self.assertEqual(joins.joined(mat, straight(mat[1])), (0, mat))

    def test_it_and_upside_down_and_it_again_are_it(self):
        for mat in oracles.mats_to(10):
            if mat[0] and mat[1]:
                self.assertEqual(joins.joined_all([mat, upside_down(mat), mat])[1], mat)

    def test_wrong_pairs(self):
        self.assert_raised(InvalidPair, (2, 3), joins.joined, straight(2), straight(3))
        self.assert_raised(InvalidPair, (1, 3), joins.joined, THREE_ONE, THREE_ONE)
        self.assert_raised(InvalidPair, (3, 1), joins.joined, ONE_THREE, ONE_THREE)
        self.assert_raised(InvalidPair, (0, 2), joins.joined, CAP, CAP)
        self.assert_raised(InvalidPair, (2, 0), joins.joined, CUP, CUP)

    def test_no_mats(self):
        for told in NO_MATS.values():
            self.assert_raised_itself(InvalidMat, told, joins.joined, told, straight(2))
            self.assert_raised_itself(InvalidMat, told, joins.joined, straight(2), told)
        self.assert_raised_itself(InvalidMat, BAD, joins.joined, BAD, WORSE)
        self.assert_raised_itself(InvalidMat, WORSE, joins.joined, WORSE, BAD)

    def test_no_mats_come_ahead_of_wrong_pairs(self):
        self.assert_raised_itself(InvalidMat, BAD, joins.joined, straight(2), BAD)
        self.assert_raised_itself(InvalidMat, BAD, joins.joined, BAD, straight(2))


class TestJoinedAll(Case):

    def test_one(self):
        for mat in oracles.mats_to(6):
            self.assert_same_kind(joins.joined_all([mat]), (0, mat))

    def test_forty(self):
        e, f = hook(3, 0), hook(3, 1)
        self.assertEqual(joins.joined_all([e] * 40), (39, e))
        self.assertEqual(joins.joined_all([e, f] * 20), (0, joins.joined(e, f)[1]))
        mixed = [hook(4, at * at * at % 7 % 3) for at in range(40)]
        rings, mat = 0, mixed[0]
        for behind in mixed[1:]:
            loose, mat = oracles.joined(mat, behind)
            rings += loose
        self.assertGreater(rings, 0)
        self.assert_same_kind(joins.joined_all(mixed), (rings, mat))

    def test_whatever_neighbours_are_joined_first(self):
        few = [mat for mat in oracles.mats_to(6) if mat[0] and mat[1]]
        for one, middle in neighbours(4):
            for last in few:
                if last[0] != middle[1] or not one[0] or not middle[1]:
                    continue
                left, from_left = joins.joined(one, middle)
                left_too, all_left = joins.joined(from_left, last)
                right, from_right = joins.joined(middle, last)
                right_too, all_right = joins.joined(one, from_right)
                self.assertEqual((left + left_too, all_left), (right + right_too, all_right))
                self.assertEqual(joins.joined_all([one, middle, last]), (left + left_too, all_left))

    def test_no_pegs_in_the_middle(self):
        self.assertEqual(joins.joined_all([CAP, CUP, CAP, CUP]), (1, hook(2, 0)))
        self.assertEqual(joins.joined_all([ONE_THREE, THREE_ONE, ONE_THREE]), (1, ONE_THREE))

    def test_more_pegs_than_sixteen_come(self):
        wide = oracles.mat_of(14, 2, [(2 * i, 2 * i + 1) for i in range(6)] + [(12, 14), (13, 15)])
        rings, mat = joins.joined_all([wide, hook(2, 0), upside_down(wide)])
        self.assertEqual((rings, mat[:2]), (0, (14, 14)))
        self.assertTrue(oracles.is_mat(mat))

    def test_an_empty_list(self):
        self.assert_raised(InvalidNumber, 0, joins.joined_all, [])

    def test_the_first_wrong_one_from_the_left(self):
        two, three = straight(2), straight(3)
        self.assert_raised_itself(InvalidMat, BAD, joins.joined_all, [BAD])
        self.assert_raised_itself(InvalidMat, BAD, joins.joined_all, [two, BAD, WORSE])
        self.assert_raised_itself(InvalidMat, BAD, joins.joined_all, [two, three, two, BAD])
        self.assert_raised(InvalidPair, (2, 3), joins.joined_all, [two, three, two])
        self.assert_raised(InvalidPair, (3, 2), joins.joined_all, [three, two, three])
        self.assert_raised(InvalidPair, (1, 2), joins.joined_all, [three, THREE_ONE, two, three])
        self.assert_raised(InvalidPair, (0, 2), joins.joined_all, [two, CAP, CAP, three])

    def test_the_list_stays_as_it_was(self):
        told = [THREE_ONE, ONE_THREE, hook(3, 1)]
        kept = copy.deepcopy(told)
        joins.joined_all(told)
        self.assertEqual(told, kept)
        wrong = [THREE_ONE, THREE_ONE]
        self.assert_raised(InvalidPair, (1, 3), joins.joined_all, wrong)
        self.assertEqual(wrong, [THREE_ONE, THREE_ONE])


class TestPower(Case):

    def test_one_by_one(self):
        for mat in SQUARES:
            for times in range(1, 10):
                self.assert_same_kind(joins.power(mat, times), oracles.power(mat, times))

    def test_powers_of_two_and_beside_them(self):
        for mat in oracles.squares_to(3) + [joins.joined(hook(6, 0), hook(6, 1))[1]]:
            rings, now, powers = 0, mat, [(0, mat)]
            for _ in range(1100):
                loose, now = joins.joined(now, mat)
                rings += loose
                powers.append((rings, now))
            for bit in range(11):
                for times in (2 ** bit - 1, 2 ** bit, 2 ** bit + 1):
                    if times:
                        self.assertEqual(joins.power(mat, times), powers[times - 1])

    def test_to_the_bound(self):
        # From the fourth power on the mat stays and each further one adds as many rings.
        for mat in SQUARES:
            for times in (999999, 10 ** 6):
                fourth, now = oracles.power(mat, 4)
                each, still = oracles.joined(now, mat)
                self.assertEqual(still, now)
                self.assert_same_kind(joins.power(mat, times), (fourth + each * (times - 4), now))
        self.assertEqual(joins.power(hook(8, 3), 10 ** 6), (10 ** 6 - 1, hook(8, 3)))
        self.assertEqual(joins.power(straight(8), 10 ** 6), (0, straight(8)))

    def test_errors_in_their_order(self):
        for told in NO_MATS.values():
            self.assert_raised_itself(InvalidMat, told, joins.power, told, 0)
            self.assert_raised_itself(InvalidMat, told, joins.power, told, 1)
        for mat in (THREE_ONE, ONE_THREE, CAP, CUP):
            self.assert_raised_itself(NotSquare, mat, joins.power, mat, 0)
            self.assert_raised_itself(NotSquare, mat, joins.power, mat, 1)
        for times in (0, -1, -(10 ** 6)):
            self.assert_raised_itself(InvalidNumber, times, joins.power, hook(2, 0), times)


class TestComesAgain(Case):

    def test_by_hand(self):
        self.assert_same_kind(joins.comes_again(straight(4)), (1, 1))
        self.assert_same_kind(joins.comes_again(hook(4, 1)), (1, 1))
        # Of all hooks in a row, each further power has two strings less through.
        row = joins.joined_all([hook(4, 0), hook(4, 1), hook(4, 2)])[1]
        self.assert_same_kind(joins.comes_again(row), (2, 1))
        row = joins.joined_all([hook(6, i) for i in range(5)])[1]
        self.assert_same_kind(joins.comes_again(row), (3, 1))

    def test_the_least_begin_and_then_the_least_length(self):
        begins = {}
        for mat in oracles.squares_to(5):
            powers = [mat]
            while len(powers) < 24:
                powers.append(oracles.joined(powers[-1], mat)[1])
            wanted = min(
                (begin + 1, length)
                for begin in range(8) for length in range(1, 12)
                if powers[begin] == powers[begin + length])
            self.assert_same_kind(joins.comes_again(mat), wanted)
            begins[wanted[0]] = True
        self.assertEqual(sorted(begins), [1, 2])

    def test_errors(self):
        for call in (joins.comes_again, joins.is_own_twice):
            for told in NO_MATS.values():
                self.assert_raised_itself(InvalidMat, told, call, told)
            for mat in (THREE_ONE, ONE_THREE, CAP, CUP):
                self.assert_raised_itself(NotSquare, mat, call, mat)


class TestOwnTwiceAndCommute(Case):

    def test_is_own_twice(self):
        for mat in oracles.squares_to(4):
            self.assertIs(joins.is_own_twice(mat), oracles.joined(mat, mat)[1] == mat)
        row = joins.joined_all([hook(4, 0), hook(4, 1), hook(4, 2)])[1]
        self.assertIs(joins.is_own_twice(row), False)
        self.assertIs(joins.is_own_twice(hook(4, 0)), True)
        self.assertIs(joins.is_own_twice(straight(4)), True)

    def test_commute(self):
        for n in (1, 2, 3, 4):
            for one in all_mats(n, n):
                for other in all_mats(n, n):
                    wanted = oracles.joined(one, other) == oracles.joined(other, one)
                    self.assertIs(joins.commute(one, other), wanted)
        self.assertIs(joins.commute(hook(4, 0), hook(4, 2)), True)
        self.assertIs(joins.commute(hook(4, 0), hook(4, 1)), False)
        self.assertIs(joins.commute(straight(8), hook(8, 5)), True)

    def test_errors_in_their_order(self):
        two, three = straight(2), straight(3)
        self.assert_raised_itself(InvalidMat, BAD, joins.commute, BAD, WORSE)
        self.assert_raised_itself(InvalidMat, WORSE, joins.commute, THREE_ONE, WORSE)
        self.assert_raised_itself(InvalidMat, WORST, joins.commute, three, WORST)
        self.assert_raised_itself(NotSquare, THREE_ONE, joins.commute, THREE_ONE, ONE_THREE)
        self.assert_raised_itself(NotSquare, ONE_THREE, joins.commute, two, ONE_THREE)
        self.assert_raised_itself(NotSquare, THREE_ONE, joins.commute, THREE_ONE, two)
        self.assert_raised(InvalidPair, (2, 3), joins.commute, two, three)
        self.assert_raised(InvalidPair, (3, 2), joins.commute, three, two)


class TestFitsBetween(Case):

    def test_the_first_in_the_order_of_all_mats(self):
        some = [mat for mat in oracles.mats_to(4) if mat[0] and mat[1]]
        none = 0
        for ahead in some:
            for behind in some:
                for goal in oracles.all_mats(ahead[0], behind[1]):
                    fitting = [
                        x for x in oracles.all_mats(ahead[1], behind[0])
                        if oracles.joined(oracles.joined(ahead, x)[1], behind)[1] == goal]
                    wanted = fitting[0] if fitting else None
                    none += wanted is None
                    self.assert_same_kind(joins.fits_between(goal, ahead, behind), wanted)
        self.assertGreater(none, 0)

    def test_unlike_numbers_of_pegs(self):
        goal = (3, 3, (1, 0, 5, 4, 3, 2))
        self.assertEqual(joins.fits_between(goal, THREE_ONE, ONE_THREE), (1, 1, (1, 0)))
        self.assertIsNone(joins.fits_between(straight(3), THREE_ONE, ONE_THREE))
        self.assertEqual(joins.fits_between((1, 1, (1, 0)), ONE_THREE, THREE_ONE), (3, 3, (1, 0, 3, 2, 5, 4)))

    def test_twelve_pegs_of_x(self):
        six = straight(6)
        self.assertEqual(joins.fits_between(hook(6, 3), six, six), hook(6, 3))
        self.assertEqual(joins.fits_between(six, six, six), six)
        self.assertIsNone(joins.fits_between(six, hook(6, 0), six))
        wide = joins.fits_between(hook(6, 2), hook(6, 2), hook(6, 2))
        self.assertEqual(joins.joined_all([hook(6, 2), wide, hook(6, 2)])[1], hook(6, 2))

    def test_errors_in_their_order(self):
        two, three = straight(2), straight(3)
        self.assert_raised_itself(InvalidMat, BAD, joins.fits_between, BAD, WORSE, WORST)
        self.assert_raised_itself(InvalidMat, WORSE, joins.fits_between, three, WORSE, WORST)
        self.assert_raised_itself(InvalidMat, WORST, joins.fits_between, three, two, WORST)
        self.assert_raised(InvalidPair, (3, 2), joins.fits_between, three, two, two)
        self.assert_raised(InvalidPair, (2, 3), joins.fits_between, two, three, three)
        self.assert_raised(InvalidPair, (3, 1), joins.fits_between, three, ONE_THREE, two)
        self.assert_raised(InvalidPair, (3, 2), joins.fits_between, three, three, two)
        self.assert_raised(InvalidPair, (3, 1), joins.fits_between, three, three, THREE_ONE)
        self.assert_raised(InvalidPair, (1, 3), joins.fits_between, (3, 1, (1, 0, 3, 2)), three, three)


class TestCalls(Case):

    def test_by_position_and_by_name(self):
        e, f = hook(3, 0), hook(3, 1)
        self.assert_by_name(joins.joined, one=THREE_ONE, other=ONE_THREE)
        self.assert_by_name(joins.joined_all, mats=[e, f, THREE_ONE])
        self.assert_by_name(joins.power, mat=e, times=3)
        self.assert_by_name(joins.comes_again, mat=e)
        self.assert_by_name(joins.is_own_twice, mat=e)
        self.assert_by_name(joins.commute, one=e, other=f)
        self.assert_by_name(joins.fits_between, goal=THREE_ONE, ahead=e, behind=THREE_ONE)


if __name__ == "__main__":
    unittest.main()
