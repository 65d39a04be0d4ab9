"""polys.py, [7]: polynomials of the ring's worth, U, and fractions."""

import itertools
import random
import unittest

from hookmats import polys
from hookmats.errors import InvalidNumber, InvalidPoly, InvalidPrime, NoDivisor
from tests import oracles
from tests.checks import Case, NO_POLYS

PRIMES = [p for p in range(2, 98) if all(p % d for d in range(2, p))]
BIG = 10 ** 30 - 1
ONE_CALLS = [(polys.at, (3,)), (polys.at_prime, (3, 7))]
TWO_CALLS = [polys.plus, polys.times, polys.divided, polys.fraction, polys.common]
# All polynomials of at most three coefficients from -2 to 2.
SMALL = sorted({oracles.trimmed(row) for row in itertools.product(range(-2, 3), repeat=3)})


def some_poly(chance, many, biggest):
    """A polynomial with so many coefficients, from minus the biggest to it."""
    row = [chance.randint(-biggest, biggest) for _ in range(many)]
    return oracles.trimmed(row[:-1] + [row[-1] or 1]) if row else ()


def some_polys(many, longest, biggest, seed):
    chance = random.Random(seed)
    return [some_poly(chance, chance.randint(0, longest), biggest) for _ in range(many)]


def bound_polys(many, seed):
    """Polynomials of thirty coefficients of thirty digits."""
    chance = random.Random(seed)
    return [some_poly(chance, 30, BIG) for _ in range(many)]


def negative(poly):
    return tuple(-a for a in poly)


class TestIsPoly(Case):

    def test_polynomials(self):
        for told in [(), (1,), (-1,), (0, 1), (0, 0, -3), (BIG,) * 30, (0,) * 29 + (1,), (-BIG,), (5, 0, 0, 1)] + SMALL:
            self.assertIs(polys.is_poly(told), True)

    def test_none(self):
        for told in NO_POLYS:
            self.assertIs(polys.is_poly(told), False)


class TestPlusAndTimes(Case):

    def test_by_hand(self):
        self.assert_same_kind(polys.plus((1, 2), (3,)), (4, 2))
        self.assert_same_kind(polys.plus((1, 2, 3), (1, 2, -3)), (2, 4))
        self.assert_same_kind(polys.plus((0, 1), (0, -1)), ())
        self.assert_same_kind(polys.plus((), ()), ())
        self.assert_same_kind(polys.times((0, 1), (1, 1)), (0, 1, 1))
        self.assert_same_kind(polys.times((1, 1), (-1, 1)), (-1, 0, 1))
        self.assert_same_kind(polys.times((), (1, 1)), ())
        self.assert_same_kind(polys.times((1, 1), ()), ())
        self.assert_same_kind(polys.times((), ()), ())

    def test_small_ones(self):
        for one in SMALL[::2]:
            for other in SMALL:
                self.assert_same_kind(polys.plus(one, other), oracles.plus(one, other))
                self.assert_same_kind(polys.times(one, other), oracles.times(one, other))

    def test_any_ones(self):
        told = some_polys(30, 30, BIG, 1) + some_polys(10, 4, 3, 2) + bound_polys(3, 3)
        for one in told:
            for other in told:
                self.assert_same_kind(polys.plus(one, other), oracles.plus(one, other))
                self.assert_same_kind(polys.times(one, other), oracles.times(one, other))
            self.assert_same_kind(polys.plus(one, negative(one)), ())

    def test_products_of_what_was_told(self):
        one, other, third = bound_polys(3, 4)
        product = polys.times(one, other)
        self.assertEqual(len(product), 59)
        self.assert_same_kind(polys.times(product, third), oracles.times(product, third))
        self.assert_same_kind(polys.times(product, product), oracles.times(product, product))
        self.assert_same_kind(polys.plus(product, third), oracles.plus(product, third))
        self.assert_same_kind(polys.plus(product, negative(product)[:40] + product[40:]),
                              (0,) * 40 + tuple(2 * a for a in product[40:]))


class TestDivided(Case):

    def test_by_hand(self):
        self.assert_same_kind(polys.divided((0, 0, 1), (0, 1)), (0, 1))
        self.assert_same_kind(polys.divided((-1, 0, 1), (1, 1)), (-1, 1))
        self.assert_same_kind(polys.divided((2, 4), (2,)), (1, 2))
        self.assert_same_kind(polys.divided((2, 4), (-2,)), (-1, -2))
        # No quotient; one with fractions alone; a dividend shorter than the divisor; a dividend 0.
        self.assertIsNone(polys.divided((1, 0, 1), (1, 1)))
        self.assertIsNone(polys.divided((1, 1), (2,)))
        self.assertIsNone(polys.divided((2, 3), (2,)))
        self.assertIsNone(polys.divided((1, 2, 1), (2, 2)))
        self.assertIsNone(polys.divided((1,), (2,)))
        self.assertIsNone(polys.divided((1, 1), (1, 2, 1)))
        self.assertIsNone(polys.divided((5,), (0, 1)))
        self.assertIsNone(polys.divided((1, 1, 1), (0, 1)))
        for other in ((1,), (-7,), (0, 1), (1, 2, 3)):
            self.assert_same_kind(polys.divided((), other), ())

    def test_small_ones(self):
        found = {True: 0, False: 0}
        for one in SMALL:
            for other in SMALL:
                if other:
                    quotient, left = oracles.parted(one, other)
                    whole = not left and all(a.denominator == 1 for a in map(oracles.Fraction, quotient))
                    self.assert_same_kind(polys.divided(one, other), tuple(map(int, quotient)) if whole else None)
                    found[whole] += 1
        self.assertGreater(min(found.values()), 500)

    def test_products_and_what_is_beside_them(self):
        told = [poly for poly in some_polys(25, 30, BIG, 5) + bound_polys(2, 6) if poly]
        for one, other in zip(told, told[1:]):
            product = polys.times(one, other)
            self.assert_same_kind(polys.divided(product, one), other)
            self.assert_same_kind(polys.divided(product, other), one)
            self.assert_same_kind(polys.divided(product, negative(one)), negative(other))
            for at in range(0, len(product), 5):
                beside = product[:at] + (product[at] + 1,) + product[at + 1:]
                if beside[-1]:
                    # A power of w beside a multiple: none itself, but of 1 and -1.
                    self.assertIs(polys.divided(beside, one) is None, one not in ((1,), (-1,)))

    def test_a_quotient_with_fractions_alone(self):
        for one in bound_polys(3, 7):
            double = tuple(2 * a for a in one)
            odd = (2 * one[0] + 1,) + double[1:]
            self.assert_same_kind(polys.divided(double, (2,)), one)
            self.assertIsNone(polys.divided(odd, (2,)))
            product = polys.times(one, (3, 2))
            self.assertEqual(polys.divided(product, (3, 2)), one)
            self.assertNotEqual([a % 3 for a in one], [0] * 30)
            self.assertIsNone(polys.divided(product, (9, 6)))


class TestValues(Case):

    def test_at(self):
        self.assert_same_kind(polys.at((1, 0, 1), 3), 10)
        self.assert_same_kind(polys.at((), 3), 0)
        self.assert_same_kind(polys.at((5, 1), 0), 5)
        self.assert_same_kind(polys.at((5, 1, 1), -2), 7)
        for poly in SMALL + some_polys(20, 30, BIG, 8) + bound_polys(3, 9):
            for number in (0, 1, -1, 2, -3, 10, BIG, -BIG):
                self.assert_same_kind(polys.at(poly, number), oracles.value_at(poly, number))

    def test_at_prime(self):
        self.assertEqual(len(PRIMES), 25)
        self.assert_same_kind(polys.at_prime((1, 0, 1), 3, 7), 3)
        self.assert_same_kind(polys.at_prime((-1,), 3, 7), 6)
        self.assert_same_kind(polys.at_prime((), 3, 7), 0)
        for poly in SMALL[::5] + some_polys(10, 30, BIG, 10) + bound_polys(2, 11):
            for number in (0, 1, -1, 2, -30, 96, 97, BIG, -BIG):
                for prime in PRIMES:
                    wanted = oracles.value_at(poly, number) % prime
                    self.assert_same_kind(polys.at_prime(poly, number, prime), wanted)

    def test_values_of_products(self):
        one, other = bound_polys(2, 12)
        product = polys.times(one, other)
        for number in (0, 7, -BIG):
            self.assertEqual(polys.at(product, number), polys.at(one, number) * polys.at(other, number))
            self.assertEqual(polys.at_prime(product, number, 97), oracles.value_at(product, number) % 97)


class TestURow(Case):

    def test_by_hand(self):
        wanted = [(1,), (0, 1), (-1, 0, 1), (0, -2, 0, 1), (1, 0, -3, 0, 1), (0, 3, 0, -4, 0, 1)]
        for many in range(7):
            self.assert_same_kind(polys.u_row(many), wanted[:many])

    def test_to_the_bound(self):
        for many in range(61):
            row = self.in_time(polys.u_row, many)
            self.assertEqual(len(row), many)
            for at, poly in enumerate(row):
                self.assertEqual(polys.at(poly, 2), at + 1)
                self.assertEqual(polys.at(poly, -2), (at + 1) * (-1) ** at)
                if at > 1:
                    taken = tuple(-a for a in row[at - 2])
                    self.assert_same_kind(poly, oracles.plus(oracles.times((0, 1), row[at - 1]), taken))
        self.assertEqual(polys.u_row(60)[:2], [(1,), (0, 1)])

    def test_wrong_numbers(self):
        for many in (-1, -2, -(10 ** 30)):
            self.assert_raised_itself(InvalidNumber, many, polys.u_row, many)


class TestCommon(Case):

    def assert_common(self, one, other):
        """Both are multiples, and what is left of them has nothing in common."""
        told = self.in_time(polys.common, one, other)
        self.assertGreater(told[-1], 0)
        left, right = polys.divided(one, told), polys.divided(other, told)
        self.assertEqual((oracles.times(left, told), oracles.times(right, told)), (one, other))
        self.assertTrue(oracles.nothing_common(left, right))
        return told

    def test_by_hand(self):
        self.assert_same_kind(polys.common((-1, 0, 1), (1, 1)), (1, 1))
        self.assert_same_kind(polys.common((1, 1), (1, -1)), (1,))
        self.assert_same_kind(polys.common((4,), (6,)), (2,))
        self.assert_same_kind(polys.common((-4,), (-6,)), (2,))
        self.assert_same_kind(polys.common((4, 2), (6,)), (2,))
        self.assert_same_kind(polys.common((0, -2), (0, 0, -4)), (0, 2))
        self.assert_same_kind(polys.common((2, 2), (3, 3)), (1, 1))
        self.assert_same_kind(polys.common((-1, -1), (-1, -1)), (1, 1))
        self.assert_same_kind(polys.common((1, -1), (1, -1)), (-1, 1))

    def test_zeros(self):
        self.assert_same_kind(polys.common((), ()), ())
        for poly in ((1,), (-1,), (-6,), (0, 5), (1, -2), (4, 6), (-4, 0, -6)):
            wanted = poly if poly[-1] > 0 else negative(poly)
            self.assert_same_kind(polys.common(poly, ()), wanted)
            self.assert_same_kind(polys.common((), poly), wanted)

    def test_small_ones(self):
        for one in SMALL:
            for other in SMALL:
                self.assert_same_kind(polys.common(one, other), oracles.common(one, other))

    def test_integers(self):
        numbers = [1, -1, 2, 6, -6, 15, BIG, -BIG, 10 ** 29, 2 ** 90 * 3, 7 ** 30]
        for one in numbers:
            for other in numbers:
                self.assert_same_kind(polys.common((one,), (other,)), (oracles.gcd(one, other),))
                wanted = (oracles.gcd(one, 5 * other, other),)
                self.assert_same_kind(polys.common((one,), (5 * other, other)), wanted)

    def test_any_ones_with_a_factor(self):
        told = [poly for poly in some_polys(60, 6, 20, 13) if poly]
        for shared, one, other in zip(told, told[1:], told[2:]):
            one, other = oracles.times(shared, one), oracles.times(shared, other)
            self.assert_same_kind(polys.common(one, other), oracles.common(one, other))
            self.assert_same_kind(polys.common(other, negative(one)), oracles.common(one, other))

    def test_of_a_poly_with_itself_and_its_multiples(self):
        for poly in bound_polys(3, 14):
            wanted = poly if poly[-1] > 0 else negative(poly)
            self.assert_same_kind(polys.common(poly, poly), wanted)
            self.assert_same_kind(polys.common(negative(poly), poly), wanted)
            self.assert_same_kind(polys.common(polys.times(poly, (0, 6)), polys.times(poly, (4, 0, 2))),
                                  tuple(2 * a for a in wanted))

    def test_thirty_coefficients_of_thirty_digits(self):
        for one, other in zip(bound_polys(4, 15), bound_polys(4, 16)):
            self.assert_same_kind(self.assert_common(one, other), (1,))
        # Ten coefficients and ten digits are shared, in polynomials of thirty.
        chance = random.Random(17)
        shared = some_poly(chance, 10, 10 ** 9)
        one, other = (oracles.times(shared, some_poly(chance, 21, 10 ** 19)) for _ in range(2))
        self.assertEqual((len(one), len(other)), (30, 30))
        told = self.assert_common(one, other)
        self.assertEqual(oracles.primitive(told), oracles.primitive(shared))

    def test_products_of_what_was_told(self):
        shared, one, other = bound_polys(3, 18)
        one, other = polys.times(shared, one), polys.times(shared, other)
        told = self.assert_common(one, other)
        self.assertEqual(oracles.primitive(told), oracles.primitive(shared))

    def test_u_has_what_its_numbers_have(self):
        # The zeros of U m - 1 and U n - 1 that are alike are those of U d - 1, d being what m and n share.
        row = polys.u_row(60)
        for one, other in ((59, 29), (59, 44), (47, 35), (59, 58), (41, 41)):
            wanted = row[oracles.gcd(one + 1, other + 1) - 1]
            self.assert_same_kind(polys.common(row[one], row[other]), wanted)


class TestFractions(Case):

    def assert_fraction(self, told, top, bottom):
        """The one fraction that is worth top through bottom."""
        self.assertIs(told.__class__, tuple)
        self.assertEqual(len(told), 2)
        self.assertGreater(told[1][-1], 0)
        self.assertEqual(oracles.times(told[0], bottom), oracles.times(told[1], top))
        self.assertTrue(oracles.nothing_common(*told))
        self.assert_same_kind(told, tuple(tuple(map(int, part)) for part in told))

    def test_by_hand(self):
        self.assert_same_kind(polys.fraction((0, 2), (0, 0, 2)), ((1,), (0, 1)))
        self.assert_same_kind(polys.fraction((2, 2), (4,)), ((1, 1), (2,)))
        self.assert_same_kind(polys.fraction((-1, 0, 1), (-1, -1)), ((1, -1), (1,)))
        self.assert_same_kind(polys.fraction((1,), (-2,)), ((-1,), (2,)))
        self.assert_same_kind(polys.fraction((1,), (1, -1)), ((-1,), (-1, 1)))
        self.assert_same_kind(polys.fraction((0, 3), (0, 3)), ((1,), (1,)))
        for bottom in ((1,), (-1,), (5,), (0, 1), (3, -6), (-BIG,) * 30):
            self.assert_same_kind(polys.fraction((), bottom), ((), (1,)))

    def test_small_ones(self):
        for top in SMALL:
            for bottom in SMALL:
                if bottom:
                    self.assert_fraction(polys.fraction(top, bottom), top, bottom)

    def test_plus_and_times_of_small_ones(self):
        told = sorted({polys.fraction(top, bottom) for top in SMALL[::7] for bottom in SMALL[::11] if bottom})
        self.assertGreater(len(told), 100)
        for one in told[::2] + [((), (1,))]:
            for other in told[::4] + [((), (1,)), (negative(one[0]), one[1])]:
                top = oracles.plus(oracles.times(one[0], other[1]), oracles.times(other[0], one[1]))
                bottom = oracles.times(one[1], other[1])
                self.assert_fraction(polys.fraction_plus(one, other), top, bottom)
                self.assert_fraction(polys.fraction_times(one, other), oracles.times(one[0], other[0]), bottom)

    def test_all_that_cancels(self):
        one = polys.fraction((1, 1), (0, 2))
        self.assert_same_kind(polys.fraction_plus(one, ((-1, -1), (0, 2))), ((), (1,)))
        self.assert_same_kind(polys.fraction_times(one, ((0, 2), (1, 1))), ((1,), (1,)))
        self.assert_same_kind(polys.fraction_times(((-1, -1), (0, 2)), ((0, 2), (1, 1))), ((-1,), (1,)))
        self.assert_same_kind(polys.fraction_plus(((1,), (0, 1)), ((1,), (0, 1))), ((2,), (0, 1)))
        self.assert_same_kind(polys.fraction_plus(((1,), (2,)), ((1,), (2,))), ((1,), (1,)))
        self.assert_same_kind(polys.fraction_plus(((1,), (0, 2)), ((1,), (0, 2))), ((1,), (0, 1)))
        # 1 / w + 1 / (w - 1) - (2 w - 1) / (w (w - 1)) is 0.
        two = polys.fraction_plus(((1,), (0, 1)), ((1,), (-1, 1)))
        self.assert_same_kind(two, ((-1, 2), (0, -1, 1)))
        self.assert_same_kind(polys.fraction_plus(two, ((1, -2), (0, -1, 1))), ((), (1,)))

    def test_zero(self):
        zero = ((), (1,))
        for told in (zero, ((1,), (1,)), ((-3,), (7,)), ((0, 1), (1, 1))):
            self.assert_same_kind(polys.fraction_plus(told, zero), told)
            self.assert_same_kind(polys.fraction_plus(zero, told), told)
            self.assert_same_kind(polys.fraction_times(told, zero), zero)
            self.assert_same_kind(polys.fraction_times(zero, told), zero)

    def test_the_bottom_has_its_sign_whatever_is_passed(self):
        for top, bottom in zip(some_polys(30, 5, 9, 19), some_polys(30, 5, 9, 20)):
            if bottom:
                told = polys.fraction(top, bottom)
                self.assert_fraction(told, top, bottom)
                self.assert_same_kind(polys.fraction(negative(top), negative(bottom)), told)
                self.assert_same_kind(polys.fraction(top, negative(bottom)), (negative(told[0]), told[1]))

    def test_to_the_bound(self):
        a, b, c, d = bound_polys(4, 21)
        one, other = self.in_time(polys.fraction, a, b), self.in_time(polys.fraction, c, d)
        self.assert_fraction(one, a, b)
        top = oracles.plus(oracles.times(a, d), oracles.times(c, b))
        bottom = oracles.times(b, d)
        self.assert_fraction(self.in_time(polys.fraction_plus, one, other), top, bottom)
        self.assert_fraction(self.in_time(polys.fraction_times, one, other), oracles.times(a, c), bottom)
        self.assertEqual(self.in_time(polys.fraction_plus, one, (negative(one[0]), one[1])), ((), (1,)))

    def test_products_with_a_factor(self):
        shared, top, bottom = bound_polys(3, 22)
        told = self.in_time(polys.fraction, polys.times(shared, top), polys.times(shared, bottom))
        self.assertEqual(told, polys.fraction(top, bottom))
        whole = polys.fraction_times(told, polys.fraction(polys.times(bottom, (0, 1)), top))
        self.assert_same_kind(whole, ((0, 1), (1,)))

    def test_what_was_told_may_be_passed_on(self):
        total = ((), (1,))
        for at, poly in enumerate(polys.u_row(8)):
            total = polys.fraction_plus(total, polys.fraction((at + 1,), poly))
            total = polys.fraction_times(total, ((2,), (1,)))
        wanted, factor = [(), (1,)], 1
        for at, poly in enumerate(polys.u_row(8)):
            factor = 2 ** (8 - at)
            wanted = [oracles.plus(oracles.times(wanted[0], poly), tuple(factor * (at + 1) * a for a in wanted[1])),
                      oracles.times(wanted[1], poly)]
        self.assert_fraction(total, *wanted)


class TestErrors(Case):

    def test_no_polynomials(self):
        for told in NO_POLYS:
            for call, rest in ONE_CALLS:
                self.assert_raised_itself(InvalidPoly, told, call, told, *rest)
            for call in TWO_CALLS:
                for right in ((), (1,), (0, 1)):
                    self.assert_raised_itself(InvalidPoly, told, call, told, right)
                    self.assert_raised_itself(InvalidPoly, told, call, right, told)
                for other in NO_POLYS:
                    self.assert_raised_itself(InvalidPoly, told, call, told, other)

    def test_no_divisor(self):
        for call in (polys.divided, polys.fraction):
            for one in ((), (1,), (0, 1), (BIG,) * 30):
                self.assert_raised(NoDivisor, (), call, one, ())
            # What is no polynomial is told ahead of a divisor that is 0.
            self.assert_raised(InvalidPoly, (1, 0), call, (1, 0), ())
            self.assert_raised(InvalidPoly, (0,), call, (1,), (0,))

    def test_no_primes(self):
        wrong = [p for p in range(-100, 200) if p not in PRIMES] + [101, 7919, 10 ** 30, -(10 ** 30), 97 ** 2, 2 ** 61 - 1]
        for prime in wrong:
            self.assert_raised_itself(InvalidPrime, prime, polys.at_prime, (1, 0, 1), 3, prime)
            self.assert_raised_itself(InvalidPrime, prime, polys.at_prime, (), 0, prime)
        self.assert_raised(InvalidPoly, (0,), polys.at_prime, (0,), 3, 4)

    def test_right_behind_wrong(self):
        still = self.assert_answered_still
        for call in TWO_CALLS:
            still(call, ((-1, 0, 1), (1, 1)), ((0,), (1,)), ((1,), (1, 0)))
        still(polys.divided, ((-1, 0, 1), (1, 1)), ((1,), ()))
        still(polys.fraction, ((-1, 0, 1), (1, 1)), ((1,), ()))
        still(polys.at, ((1, 2), 3), ((0,), 3))
        still(polys.at_prime, ((1, 2), 3, 5), ((0,), 3, 5), ((1,), 3, 4))
        still(polys.u_row, (4,), (-1,))


class TestCalls(Case):

    def test_by_position_and_by_name(self):
        self.assert_by_name(polys.is_poly, told=(1, 0))
        self.assert_by_name(polys.plus, one=(1, 1), other=(0, 2))
        self.assert_by_name(polys.times, one=(1, 1), other=(0, 2))
        self.assert_by_name(polys.divided, one=(-1, 0, 1), other=(1, 1))
        self.assert_by_name(polys.at, one=(1, 2), number=5)
        self.assert_by_name(polys.at_prime, one=(1, 2), number=5, prime=7)
        self.assert_by_name(polys.u_row, many=4)
        self.assert_by_name(polys.fraction, top=(2, 2), bottom=(0, 2))
        self.assert_by_name(polys.common, one=(-1, 0, 1), other=(1, 1))
        self.assert_by_name(polys.fraction_plus, one=((1,), (0, 1)), other=((1, 1), (2,)))
        self.assert_by_name(polys.fraction_times, one=((1,), (0, 1)), other=((1, 1), (2,)))

    def test_new_lists(self):
        self.assert_new_lists(polys.u_row, 5)
        self.assert_new_lists(polys.u_row, 0)


if __name__ == "__main__":
    unittest.main()
