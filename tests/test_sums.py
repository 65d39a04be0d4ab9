"""sums.py, [8]: sums of mats, with polynomials, and their products."""

import itertools
import random
import unittest

from hookmats import sums
from hookmats.errors import InvalidHook, InvalidMat, InvalidNumber, InvalidPair, InvalidPoly, InvalidSum
from tests import oracles
from tests.checks import Case, NO_MATS, NO_POLYS, NO_SUMS

BIG = 10 ** 30 - 1
E, F, THREE = oracles.hook(3, 0), oracles.hook(3, 1), oracles.straight(3)
H, TWO, ONE = oracles.hook(2, 0), oracles.straight(2), oracles.straight(1)
THREE_ONE, ONE_THREE = (3, 1, (1, 0, 3, 2)), (1, 3, (3, 2, 1, 0))
CAP, CUP = (2, 0, (1, 0)), (0, 2, (1, 0))
SHAPES = [(1, 1), (2, 2), (3, 3), (4, 4), (1, 3), (3, 1), (4, 2), (2, 4), (3, 5), (2, 0), (0, 2), (6, 0), (0, 4)]
BAD_SUM, WORSE_SUM = ((H, ()),), ((TWO, (1,)), (H, (1,)))
ONE_CALLS = [
    (sums.scaled, ((1,),)), (sums.part, (H,)), (sums.flipped, ()), (sums.at_worth, (3,)),
]


def some_poly(chance, longest, biggest):
    row = [chance.randint(-biggest, biggest) for _ in range(chance.randint(1, longest))]
    return tuple(row[:-1] + [row[-1] or 1])


def some_sum(n, m, seed, longest=4, biggest=9, least=0):
    """A sum of some of the mats of n and m, or all of them."""
    chance = random.Random(seed)
    told = oracles.all_mats(n, m)
    kept = sorted(chance.sample(told, chance.randint(min(least, len(told)), len(told))))
    return tuple((mat, some_poly(chance, longest, biggest)) for mat in kept)


def full_sum(n, m, seed, many, biggest):
    """A sum of all mats of n and m, their polynomials of so many coefficients."""
    chance = random.Random(seed)
    return tuple(
        (mat, tuple(chance.randint(1, biggest) * (-1) ** chance.randint(0, 1) for _ in range(many)))
        for mat in oracles.all_mats(n, m))


def some_sums(n, m, many):
    return [()] + [some_sum(n, m, seed) for seed in range(many)]


def negative(told):
    return tuple((mat, tuple(-a for a in poly)) for mat, poly in told)


class TestIsSum(Case):

    def test_sums(self):
        told = [(), ((H, (1,)),), ((H, (1,)), (TWO, (1,))), ((H, (2,)), (TWO, (1,))), ((H, (0, -1)), (TWO, (0, 0, 5)))]
        told += [some_sum(n, m, seed) for n, m in SHAPES for seed in range(10)]
        told += [full_sum(6, 6, 1, 30, BIG), full_sum(12, 0, 2, 2, 3), full_sum(0, 12, 3, 1, 1)]
        for one in told:
            self.assertIs(sums.is_sum(one), True)

    def test_none(self):
        for why, told in NO_SUMS.items():
            self.assertIs(sums.is_sum(told), False, why)
        for told in NO_MATS.values():
            self.assertIs(sums.is_sum(((told, (1,)),)), False)
            self.assertIs(sums.is_sum(((H, (1,)), (told, (1,)))), False)
        for poly in NO_POLYS + [()]:
            self.assertIs(sums.is_sum(((H, poly),)), False)
            self.assertIs(sums.is_sum(((H, (1,)), (TWO, poly))), False)

    def test_in_each_order(self):
        told = [(mat, (1,)) for mat in oracles.all_mats(3, 3)]
        for one in itertools.permutations(told):
            self.assertIs(sums.is_sum(one), list(one) == told)

    def test_wrong_at_any_place(self):
        right = full_sum(4, 4, 5, 2, 3)
        for at, (mat, poly) in enumerate(right):
            ahead, behind = right[:at], right[at + 1:]
            self.assertIs(sums.is_sum(ahead + behind), True)
            for wrong in (
                ((mat, ()),), ((mat, poly + (0,)),), ((mat, poly), (mat, poly)), ((mat, (1,)), (mat, (2,))),
                (((4, 4, (1, 0) + mat[2][2:6] + (6, 7)), poly),), ((oracles.all_mats(5, 3)[at], poly),),
                ((oracles.all_mats(3, 5)[at], poly),),
            ):
                self.assertIs(sums.is_sum(ahead + wrong + behind), False)


class TestSumOfAndAdd(Case):

    def test_sum_of(self):
        for mat in oracles.mats_to(6):
            self.assert_same_kind(sums.sum_of(mat), ((mat, (1,)),))

    def test_by_hand(self):
        e, f = sums.sum_of(E), sums.sum_of(F)
        self.assert_same_kind(sums.add(e, e), ((E, (2,)),))
        self.assert_same_kind(sums.add(e, f), tuple(sorted([(E, (1,)), (F, (1,))])))
        self.assert_same_kind(sums.add(f, e), tuple(sorted([(E, (1,)), (F, (1,))])))
        self.assert_same_kind(sums.add(e, ((E, (-1,)),)), ())
        self.assert_same_kind(sums.add(((E, (1, 2)),), ((E, (0, -2)),)), ((E, (1,)),))
        self.assert_same_kind(sums.add(((H, (1,)), (TWO, (1,))), ((H, (-1,)),)), ((TWO, (1,)),))

    def test_any_sums(self):
        for n, m in SHAPES:
            told = some_sums(n, m, 8)
            for one in told:
                for other in told:
                    found = {}
                    for mat, poly in one + other:
                        oracles.add_to(found, mat, poly)
                    answer = sums.add(one, other)
                    self.assert_same_kind(answer, oracles.sum_of_dict(found))
                    self.assertIs(sums.is_sum(answer), True)
                self.assert_same_kind(sums.add(one, negative(one)), ())

    def test_zero_goes_with_all(self):
        for told in ((), sums.sum_of(E), sums.sum_of(THREE_ONE), full_sum(2, 4, 1, 3, 9)):
            self.assert_same_kind(sums.add(told, ()), told)
            self.assert_same_kind(sums.add((), told), told)


class TestMultiply(Case):

    def test_by_hand(self):
        e, f = sums.sum_of(E), sums.sum_of(F)
        self.assert_same_kind(sums.multiply(e, e), ((E, (0, 1)),))
        self.assert_same_kind(sums.multiply(e, f), (((3, 3, (1, 0, 3, 2, 5, 4)), (1,)),))
        self.assert_same_kind(sums.multiply(((E, (1, 1)),), ((E, (0, 2)),)), ((E, (0, 0, 2, 2)),))
        self.assert_same_kind(sums.multiply(sums.sum_of(ONE_THREE), sums.sum_of(THREE_ONE)), ((ONE, (0, 1)),))
        self.assert_same_kind(sums.multiply(sums.sum_of(THREE_ONE), sums.sum_of(ONE_THREE)), ((E, (1,)),))
        self.assert_same_kind(sums.multiply(sums.sum_of(CAP), sums.sum_of(CUP)), ((H, (1,)),))

    def test_mats_that_come_to_one_and_take_each_other_away(self):
        h = sums.sum_of(H)
        # (w - the hook) by the hook is 0; so is the hook less w times it, on one side or within.
        self.assert_same_kind(sums.multiply(((H, (-1,)), (TWO, (0, 1))), h), ())
        self.assert_same_kind(sums.multiply(h, ((H, (-1,)), (TWO, (0, 1)))), ())
        self.assert_same_kind(sums.multiply(((H, (1,)), (TWO, (1,))), ((H, (1,)), (TWO, (1,)))),
                              ((H, (2, 1)), (TWO, (1,))))
        self.assert_same_kind(sums.multiply(((H, (-1,)), (TWO, (1,))), ((H, (1,)), (TWO, (1,)))),
                              ((H, (0, -1)), (TWO, (1,))))
        # e f e is e: e (f e - 1) is 0.
        fe = oracles.value(3, (1, 0))[1]
        one = tuple(sorted([(fe, (1,)), (THREE, (-1,))]))
        self.assert_same_kind(sums.multiply(sums.sum_of(E), one), ())
        self.assert_same_kind(sums.multiply(sums.sum_of(F), one), tuple(sorted([(fe, (0, 1)), (F, (-1,))])))

    def test_zero(self):
        for told in ((), sums.sum_of(E), sums.sum_of(THREE_ONE), full_sum(2, 4, 1, 3, 9)):
            self.assert_same_kind(sums.multiply(told, ()), ())
            self.assert_same_kind(sums.multiply((), told), ())

    def test_any_sums(self):
        for (n, m), (l, k) in itertools.product(SHAPES, SHAPES):
            if m == l and n + k:
                for one in some_sums(n, m, 4):
                    for other in some_sums(l, k, 5)[3:]:
                        answer = sums.multiply(one, other)
                        self.assert_same_kind(answer, oracles.multiply(one, other))
                        self.assertIs(sums.is_sum(answer), True)

    def test_whatever_neighbours_are_multiplied_first(self):
        for shapes in (((2, 2), (2, 4), (4, 2)), ((3, 3), (3, 3), (3, 3)), ((1, 3), (3, 3), (3, 1))):
            for seed in range(5):
                one, other, third = [some_sum(n, m, seed + n, least=1) for n, m in shapes]
                self.assertEqual(sums.multiply(sums.multiply(one, other), third),
                                 sums.multiply(one, sums.multiply(other, third)))
                more = some_sum(*shapes[1], seed + 50, least=1)
                self.assertEqual(sums.multiply(one, sums.add(other, more)),
                                 sums.add(sums.multiply(one, other), sums.multiply(one, more)))

    def test_sums_of_132_mats_in_good_time(self):
        one, other = full_sum(6, 6, 6, 2, 9), full_sum(6, 6, 7, 1, 9)
        self.assertEqual((len(one), len(other)), (132, 132))
        self.assert_same_kind(self.in_time(sums.multiply, one, other), oracles.multiply(one, other))
        wide, high = full_sum(6, 6, 8, 30, BIG), full_sum(6, 6, 9, 30, BIG)
        whole = self.in_time(sums.multiply, wide, high)
        self.assertIs(self.in_time(sums.is_sum, whole), True)
        # At a number it is the product of what both sums are there.
        for number in (1, -2):
            ahead = tuple((mat, (value,)) for mat, value in sums.at_worth(wide, number))
            behind = tuple((mat, (value,)) for mat, value in sums.at_worth(high, number))
            found = {}
            for mat, poly in self.in_time(sums.multiply, ahead, behind):
                oracles.add_to(found, mat, (oracles.value_at(poly, number),))
            wanted = [(mat, poly[0]) for mat, poly in oracles.sum_of_dict(found)]
            self.assertEqual(sums.at_worth(whole, number), wanted)


class TestOthers(Case):

    def test_scaled(self):
        self.assert_same_kind(sums.scaled(((H, (1, 1)), (TWO, (2,))), (0, -3)), ((H, (0, -3, -3)), (TWO, (0, -6))))
        for n, m in SHAPES:
            for told in some_sums(n, m, 5):
                self.assert_same_kind(sums.scaled(told, ()), ())
                self.assert_same_kind(sums.scaled(told, (1,)), told)
                self.assert_same_kind(sums.scaled(told, (-1,)), negative(told))
                for poly in ((0, 1), (2, 0, -3), (BIG,) * 30):
                    wanted = tuple((mat, oracles.times(own, poly)) for mat, own in told)
                    self.assert_same_kind(sums.scaled(told, poly), wanted)
                    self.assertIs(sums.is_sum(wanted), True)

    def test_part(self):
        for n, m in SHAPES:
            for told in some_sums(n, m, 5):
                for mat in oracles.all_mats(n, m):
                    wanted = [poly for own, poly in told if own == mat]
                    self.assert_same_kind(sums.part(told, mat), wanted[0] if wanted else ())
                for mat in (oracles.straight(7), (8, 0, (1, 0, 3, 2, 5, 4, 7, 6))):
                    self.assert_same_kind(sums.part(told, mat), ())

    def test_flipped(self):
        self.assert_same_kind(sums.flipped(sums.sum_of(THREE_ONE)), ((ONE_THREE, (1,)),))
        self.assert_same_kind(sums.flipped(()), ())
        exchanged = 0
        for n, m in SHAPES:
            for told in some_sums(n, m, 6):
                turned_over = [(oracles.flipped(mat), poly) for mat, poly in told]
                exchanged += turned_over != sorted(turned_over)
                answer = sums.flipped(told)
                self.assert_same_kind(answer, tuple(sorted(turned_over)))
                self.assertEqual(sums.flipped(answer), told)
                self.assertIs(sums.is_sum(answer), True)
        self.assertGreater(exchanged, 10)

    def test_flipped_products(self):
        for seed in range(5):
            one, other = some_sum(2, 4, seed, least=1), some_sum(4, 4, seed, least=1)
            self.assertEqual(sums.flipped(sums.multiply(one, other)),
                             sums.multiply(sums.flipped(other), sums.flipped(one)))

    def test_word_sum(self):
        self.assert_same_kind(sums.word_sum(3, ()), ((THREE, (1,)),))
        self.assert_same_kind(sums.word_sum(3, (0, 0, 0)), ((E, (0, 0, 1)),))
        chance = random.Random(3)
        for n in range(1, 7):
            for length in range(31 if n > 1 else 1):
                word = tuple(chance.randrange(n - 1) for _ in range(length))
                rings, mat = oracles.value(n, word)
                self.assert_same_kind(sums.word_sum(n, word), ((mat, (0,) * rings + (1,)),))
        self.assert_same_kind(sums.word_sum(6, (4,) * 30), ((oracles.hook(6, 4), (0,) * 29 + (1,)),))

    def test_word_sums_are_products(self):
        for word in itertools.product(range(3), repeat=4):
            whole = sums.word_sum(4, ())
            for i in word:
                whole = sums.multiply(whole, sums.sum_of(oracles.hook(4, i)))
            self.assertEqual(sums.word_sum(4, word), whole)

    def test_at_worth(self):
        self.assert_same_kind(sums.at_worth(((H, (0, 1)), (TWO, (-2, 1))), 2), [(H, 2)])
        self.assert_same_kind(sums.at_worth(((H, (0, 1)), (TWO, (-2, 1))), 0), [(TWO, -2)])
        self.assert_same_kind(sums.at_worth(((H, (0, 1)),), 0), [])
        self.assert_same_kind(sums.at_worth((), 5), [])
        for n, m in SHAPES:
            for told in some_sums(n, m, 6) + [((mat, (-3, 1)),) for mat in oracles.all_mats(n, m)]:
                for number in (0, 1, -1, 3, BIG, -BIG):
                    values = [(mat, oracles.value_at(poly, number)) for mat, poly in told]
                    wanted = [pair for pair in values if pair[1] != 0]
                    self.assert_same_kind(sums.at_worth(told, number), wanted)

    def test_132_mats_in_good_time(self):
        told = full_sum(6, 6, 10, 30, BIG)
        self.assertEqual(self.in_time(sums.add, told, negative(told)), ())
        self.assertEqual(self.in_time(sums.flipped, self.in_time(sums.flipped, told)), told)
        self.assertEqual(self.in_time(sums.scaled, told, (BIG,) * 30)[131][1], oracles.times(told[131][1], (BIG,) * 30))
        self.assertEqual(self.in_time(sums.part, told, told[77][0]), told[77][1])
        self.assertEqual(len(self.in_time(sums.at_worth, told, BIG)), 132)


class TestErrors(Case):

    def test_no_sums(self):
        for why, told in NO_SUMS.items():
            for call, rest in ONE_CALLS:
                self.assert_raised_itself(InvalidSum, told, call, told, *rest)
            for call in (sums.add, sums.multiply):
                for right in ((), ((H, (1,)),), ((E, (1,)),)):
                    self.assert_raised_itself(InvalidSum, told, call, told, right)
                    self.assert_raised_itself(InvalidSum, told, call, right, told)
                self.assert_raised_itself(InvalidSum, told, call, told, BAD_SUM)
        for call in (sums.add, sums.multiply):
            self.assert_raised_itself(InvalidSum, BAD_SUM, call, BAD_SUM, WORSE_SUM)
            self.assert_raised_itself(InvalidSum, WORSE_SUM, call, WORSE_SUM, BAD_SUM)

    def test_no_mats_and_no_polynomials(self):
        for told in NO_MATS.values():
            self.assert_raised_itself(InvalidMat, told, sums.sum_of, told)
            self.assert_raised_itself(InvalidMat, told, sums.part, (), told)
            self.assert_raised_itself(InvalidMat, told, sums.part, ((H, (1,)),), told)
            # What is no sum comes ahead.
            self.assert_raised_itself(InvalidSum, BAD_SUM, sums.part, BAD_SUM, told)
        for poly in NO_POLYS:
            self.assert_raised_itself(InvalidPoly, poly, sums.scaled, (), poly)
            self.assert_raised_itself(InvalidPoly, poly, sums.scaled, ((H, (1,)),), poly)
            self.assert_raised_itself(InvalidSum, BAD_SUM, sums.scaled, BAD_SUM, poly)

    def test_wrong_words(self):
        for n in (0, -1, -(10 ** 30)):
            for word in ((), (0,), (-1, 7)):
                self.assert_raised_itself(InvalidNumber, n, sums.word_sum, n, word)
        for n in range(1, 7):
            for wrong in (-1, -n, n - 1, n, 10 ** 30):
                for ahead in ((), (0,) * min(n - 1, 1) * 5):
                    self.assert_raised_itself(InvalidHook, wrong, sums.word_sum, n, ahead + (wrong, -5, 99))

    def test_wrong_pairs(self):
        one, two, three = ((ONE, (1,)),), ((TWO, (0, 1)),), ((E, (1,)), (THREE, (2,)))
        high, wide = ((ONE_THREE, (1,)),), ((THREE_ONE, (1,)),)
        for call, left, right, wanted in (
            (sums.add, two, three, ((2, 2), (3, 3))), (sums.add, three, two, ((3, 3), (2, 2))),
            (sums.add, high, wide, ((1, 3), (3, 1))), (sums.add, wide, one, ((3, 1), (1, 1))),
            (sums.add, one, high, ((1, 1), (1, 3))), (sums.add, two, wide, ((2, 2), (3, 1))),
            (sums.multiply, two, three, (2, 3)), (sums.multiply, three, two, (3, 2)),
            (sums.multiply, high, high, (3, 1)), (sums.multiply, wide, wide, (1, 3)),
            (sums.multiply, ((CAP, (1,)),), two, (0, 2)), (sums.multiply, two, ((CUP, (1,)),), (2, 0)),
        ):
            self.assert_raised(InvalidPair, wanted, call, left, right)
        self.assertEqual(sums.multiply(high, wide)[0][0], (1, 1, (1, 0)))

    def test_no_sums_come_ahead_of_wrong_pairs(self):
        for call in (sums.add, sums.multiply):
            self.assert_raised_itself(InvalidSum, BAD_SUM, call, ((E, (1,)),), BAD_SUM)
            self.assert_raised_itself(InvalidSum, BAD_SUM, call, BAD_SUM, ((E, (1,)),))

    def test_right_behind_wrong(self):
        h, e, still = ((H, (1, 2)),), ((E, (1,)),), self.assert_answered_still
        for call in (sums.add, sums.multiply):
            still(call, (h, h), (h, BAD_SUM), (BAD_SUM, h), (h, e))
        still(sums.sum_of, (H,), ((1, 1, (0, 1)),))
        still(sums.scaled, (h, (0, 1)), (BAD_SUM, (1,)), (h, (0,)))
        still(sums.part, (h, H), (BAD_SUM, H), (h, (1, 1, (0, 1))))
        still(sums.flipped, (h,), (BAD_SUM,))
        still(sums.at_worth, (h, 2), (BAD_SUM, 2))
        still(sums.word_sum, (3, (0, 1)), (0, ()), (3, (2,)))


class TestCalls(Case):

    def test_by_position_and_by_name(self):
        h, told = ((H, (1, 2)),), ((H, (1,)), (TWO, (0, 3)))
        self.assert_by_name(sums.is_sum, told=told)
        self.assert_by_name(sums.sum_of, mat=H)
        self.assert_by_name(sums.add, one=h, other=told)
        self.assert_by_name(sums.multiply, one=((THREE_ONE, (1,)),), other=((ONE_THREE, (2,)),))
        self.assert_by_name(sums.scaled, told=told, poly=(0, 1))
        self.assert_by_name(sums.part, told=told, mat=TWO)
        self.assert_by_name(sums.flipped, told=told)
        self.assert_by_name(sums.word_sum, n=3, word=(0, 1))
        self.assert_by_name(sums.at_worth, told=told, number=-2)

    def test_new_lists(self):
        self.assert_new_lists(sums.at_worth, ((H, (1,)), (TWO, (0, 3))), 2)
        self.assert_new_lists(sums.at_worth, (), 2)

    def test_what_was_told_may_be_passed_on(self):
        whole = sums.add(sums.word_sum(3, (0, 1)), sums.word_sum(3, ()))
        again = sums.multiply(whole, whole)
        self.assertEqual(again, oracles.multiply(whole, whole))
        self.assertEqual(sums.multiply(again, sums.flipped(again)), oracles.multiply(again, sums.flipped(again)))
        mat, poly = again[0]
        self.assertEqual(sums.part(sums.scaled(again, poly), mat), oracles.times(poly, poly))
        large = sums.scaled(sums.scaled(again, (BIG,) * 5), (BIG, -BIG))
        self.assertEqual(sums.at_worth(large, BIG), [
            (mat, oracles.value_at(poly, BIG)) for mat, poly in large if oracles.value_at(poly, BIG)])


if __name__ == "__main__":
    unittest.main()
