"""killers.py, [9]: the sums that each hook makes 0, with fractions and by remainders of a prime."""

import copy
import random
import unittest
from fractions import Fraction
from math import comb

from hookmats import killers, polys
from hookmats.errors import InvalidNumber, InvalidPrime
from tests import oracles
from tests.checks import BELOW_ONE, Case, NO_PRIMES, PRIMES

BIG = 10 ** 30 - 1
# No polynomial that comes here is 0 at the last one, unless it is 0.
PLACES = (7, Fraction(5, 3), 10 ** 80)
SHARES = [
    ((1,), (1,)), ((-1,), (1,)), ((2,), (3,)), ((-BIG,), (7,)), ((0, 1), (1,)), ((1,), (0, 1)), ((0, 0, -3), (5,)),
    ((1, 1), (3, 0, 1)), ((-1, 0, 1), (1, 2)), ((0, -2, 0, 1), (-1, 0, 1)), ((1,), (0, 0, 0, 2)),
]


def value(fraction, number):
    return Fraction(oracles.value_at(fraction[0], number)) / oracles.value_at(fraction[1], number)


def made(told, other, ahead, number):
    """What comes if a mat is put ahead of a sum with fractions, or behind it, w being a number."""
    found = {}
    for mat, fraction in told:
        rings, whole = oracles.joined_once(other, mat) if ahead else oracles.joined_once(mat, other)
        found[whole] = found.get(whole, 0) + value(fraction, number) * number ** rings
    return {mat: worth for mat, worth in found.items() if worth}


def is_zero(told, n, i, ahead):
    return all(not made(told, oracles.hook(n, i), ahead, number) for number in PLACES)


def is_killed(n, told):
    """By its words: 0 with each hook ahead and each behind."""
    return all(is_zero(told, n, i, ahead) for i in range(n - 1) for ahead in (True, False))


def shared(told, share):
    """A multiple by a fraction."""
    return [(mat, polys.fraction_times(fraction, share)) for mat, fraction in told]


def great_fraction(seed):
    chance = random.Random(seed)
    top, bottom = [tuple(chance.randint(BIG // 10, BIG) * chance.choice((1, -1)) for _ in range(30)) for _ in range(2)]
    return polys.fraction(top, bottom)


def exchanged(told, at, to):
    row = list(told)
    row[at], row[to] = (row[at][0], row[to][1]), (row[to][0], row[at][1])
    return row


def with_fraction(told, at, fraction):
    return told[:at] + [(told[at][0], fraction)] + told[at + 1:]


def killed_at(n, told, number, prime):
    """True if by remainders each hook makes 0 of a list of tuples (mat, remainder), ahead and behind."""
    for i in range(n - 1):
        for ahead in (True, False):
            found = {}
            for mat, remainder in told:
                pair = (oracles.hook(n, i), mat) if ahead else (mat, oracles.hook(n, i))
                rings, whole = oracles.joined_once(*pair)
                found[whole] = found.get(whole, 0) + remainder * pow(number, rings, prime)
            if any(worth % prime for worth in found.values()):
                return False
    return True


class TestKiller(Case):

    def test_by_hand(self):
        self.assert_same_kind(killers.killer(1), [((1, 1, (1, 0)), ((1,), (1,)))])
        self.assert_same_kind(killers.killer(2), [
            ((2, 2, (1, 0, 3, 2)), ((-1,), (0, 1))), ((2, 2, (2, 3, 0, 1)), ((1,), (1,)))])
        e, f, one = oracles.hook(3, 0), oracles.hook(3, 1), oracles.straight(3)
        ef, fe = oracles.joined(e, f)[1], oracles.joined(f, e)[1]
        side, both = ((0, -1), (-1, 0, 1)), ((1,), (-1, 0, 1))
        self.assert_same_kind(killers.killer(3), sorted([
            (e, side), (f, side), (ef, both), (fe, both), (one, ((1,), (1,)))]))

    def test_its_form(self):
        for n in range(1, 6):
            told = self.in_time(killers.killer, n)
            self.assertIs(told.__class__, list)
            self.assertEqual([mat for mat, _ in told], list(oracles.all_mats(n, n)))
            self.assert_same_kind(dict(told)[oracles.straight(n)], ((1,), (1,)))
            for one in told:
                self.assert_same_kind(one, (one[0], tuple(tuple(int(a) for a in poly) for poly in one[1])))
                top, bottom = one[1]
                self.assertTrue(top and top[-1] and bottom[-1] > 0)
                self.assertTrue(oracles.nothing_common(top, bottom))

    def test_each_hook_makes_0(self):
        for n in range(1, 6):
            told = killers.killer(n)
            for i in range(n - 1):
                self.assertTrue(is_zero(told, n, i, True))
                self.assertTrue(is_zero(told, n, i, False))

    def test_it_is_itself_from_each_side(self):
        table = {n: dict(killers.killer(n)) for n in range(1, 6)}
        for n, found in table.items():
            for mat, fraction in found.items():
                self.assertEqual(found[oracles.flipped(mat)], fraction)

    def test_told_again(self):
        for n in range(1, 6):
            first = killers.killer(n)
            kept = copy.deepcopy(first)
            first.pop()
            self.assert_same_kind(killers.killer(n), kept)
            self.assert_new_lists(killers.killer, n)
            self.assertIs(killers.is_killed(n, kept), True)
            self.assert_same_kind(killers.trace_of_killer(n), (oracles.u(n), (1,)))


class TestIsKilled(Case):

    def test_the_killer_and_its_multiples(self):
        for n in range(1, 6):
            told = killers.killer(n)
            self.assertIs(self.in_time(killers.is_killed, n, told), True)
            for share in SHARES:
                self.assertIs(killers.is_killed(n, shared(told, share)), True)

    def test_nothing_is_killed(self):
        for n in range(1, 7):
            self.assertIs(killers.is_killed(n, []), True)

    def test_all_of_one_string(self):
        for share in SHARES + [great_fraction(1)]:
            self.assertIs(killers.is_killed(1, [((1, 1, (1, 0)), share)]), True)

    def test_one_tuple_is_wrong(self):
        for n in range(2, 6):
            for share in SHARES[:6:5]:
                told = shared(killers.killer(n), share)
                for at, (_, fraction) in enumerate(told):
                    self.assertIs(killers.is_killed(n, told[:at] + told[at + 1:]), False)
                    for factor in (((-1,), (1,)), ((2,), (1,)), ((1,), (2,)), ((0, 1), (1,)), ((1,), (1, 1))):
                        wrong = polys.fraction_times(fraction, factor)
                        self.assertIs(killers.is_killed(n, with_fraction(told, at, wrong)), False)
                    for more in (((1,), (1,)), ((-1,), (0, 1)), ((1,), (BIG,))):
                        wrong = polys.fraction_plus(fraction, more)
                        if wrong[0]:
                            self.assertIs(killers.is_killed(n, with_fraction(told, at, wrong)), False)

    def test_two_fractions_exchanged(self):
        for n in range(2, 6):
            told, unlike = killers.killer(n), 0
            for at, (_, one) in enumerate(told):
                for to in range(at):
                    wanted = one == told[to][1]
                    unlike += not wanted
                    self.assertIs(killers.is_killed(n, exchanged(told, at, to)), wanted)
            self.assertTrue(unlike)

    def test_some_mats_alone(self):
        for n in range(2, 6):
            told = killers.killer(n)
            self.assertIs(killers.is_killed(n, [(oracles.straight(n), ((1,), (1,)))]), False)
            self.assertIs(killers.is_killed(n, [one for one in told if one[0] != oracles.straight(n)]), False)
            for mat, fraction in told:
                self.assertIs(killers.is_killed(n, [(mat, fraction)]), False)
            for i in range(n - 1):
                self.assertIs(killers.is_killed(n, [(oracles.hook(n, i), ((0, 1), (1,)))]), False)
            self.assertIs(killers.is_killed(n, [(mat, ((1,), (1,))) for mat, _ in told]), False)

    def test_lists_that_are_not_in_form(self):
        for n in range(2, 6):
            told = killers.killer(n)
            for wrong in (told[::-1], told + told[-1:], told + told, [told[1], told[0]] + told[2:]):
                self.assertIs(killers.is_killed(n, wrong), False)
            self.assertIs(killers.is_killed(n, [(mat, ((), (1,))) for mat, _ in told]), False)
            self.assertIs(killers.is_killed(n - 1, told), False)

    def test_any_small_sums(self):
        chance, killed = random.Random(2), 0
        for n in range(2, 5):
            whole = killers.killer(n)
            for _ in range(60):
                told = [one for one in whole if chance.random() < 0.9]
                told = shared(told, chance.choice(SHARES))
                wanted = is_killed(n, told)
                killed += wanted
                self.assertIs(killers.is_killed(n, told), wanted)
        self.assertGreater(killed, 10)

    def assert_one_sided(self, n, told, hooks):
        """0 with these hooks ahead, but not with those behind; and turned over the other way round."""
        told = sorted(told)
        over = sorted((oracles.flipped(mat), fraction) for mat, fraction in told)
        for one, ahead in ((told, True), (over, False)):
            for i in range(n - 1):
                self.assertEqual(is_zero(one, n, i, ahead), i in hooks)
            self.assertFalse(all(is_zero(one, n, i, not ahead) for i in range(n - 1)))
            self.assertIs(killers.is_killed(n, one), False)

    def test_0_with_hooks_ahead_but_not_behind(self):
        # What all hooks ahead make 0 is a multiple of the killer: so one of them is wanting here.
        for n in range(3, 6):
            for i in range(n - 1):
                near = i + 1 if i < n - 2 else i - 1
                both = oracles.joined(oracles.hook(n, i), oracles.hook(n, near))[1]
                told = [(oracles.hook(n, near), ((0, 1), (1,))), (both, ((-1,), (1,)))]
                self.assert_one_sided(n, told, [i])

    def test_0_with_all_hooks_ahead_but_one(self):
        for n in range(3, 6):
            for last in (True, False):
                told = {}
                for mat, fraction in killers.killer(n - 1):
                    pairs = oracles.pairs_of(mat[2])
                    left = 0 if last else 1
                    place = [left + p + (p >= n - 1) for p in range(2 * n - 2)]
                    beside = (n - 1, 2 * n - 1) if last else (0, n)
                    wide = oracles.mat_of(n, n, [(place[p], place[q]) for p, q in pairs] + [beside])
                    rings, whole = oracles.joined(wide, oracles.hook(n, n - 2 if last else 0))
                    fraction = polys.fraction_times(fraction, ((0,) * rings + (1,), (1,)))
                    told[whole] = polys.fraction_plus(told.get(whole, ((), (1,))), fraction)
                told = [(mat, fraction) for mat, fraction in told.items() if fraction[0]]
                self.assert_one_sided(n, told, list(range(n - 2)) if last else list(range(1, n - 1)))

    def test_great_fractions(self):
        for n in range(2, 6):
            share = great_fraction(n)
            told = shared(killers.killer(n), share)
            self.assertIs(self.in_time(killers.is_killed, n, told), True)
            for at in (0, len(told) // 2, len(told) - 1):
                (top, bottom) = told[at][1]
                for wrong in (
                    polys.fraction((top[0] + 1,) + top[1:], bottom), polys.fraction(top, (bottom[0] + 1,) + bottom[1:]),
                    polys.fraction(top[:-1] + (top[-1] + 1,), bottom), (tuple(-a for a in top), bottom),
                ):
                    self.assertIs(self.in_time(killers.is_killed, n, with_fraction(told, at, wrong)), False)
            for at in range(1, len(told)):
                self.assertIs(killers.is_killed(n, exchanged(told, at, 0)), told[at][1] == told[0][1])
            apart = [(mat, great_fraction(10 * n + at)) for at, (mat, _) in enumerate(told)]
            self.assertIs(self.in_time(killers.is_killed, n, apart), False)

    def test_what_is_passed_stays(self):
        told = killers.killer(4)
        kept = copy.deepcopy(told)
        self.assertIs(killers.is_killed(4, told), True)
        self.assertEqual(told, kept)
        told.pop()
        self.assertIs(killers.is_killed(4, told), False)
        self.assertIs(killers.is_killed(4, kept), True)


class TestBinomial(Case):

    def test_by_hand(self):
        self.assert_same_kind(killers.binomial(3, 1), (-1, 0, 1))
        self.assert_same_kind(killers.binomial(4, 2), (2, 0, -3, 0, 1))
        self.assert_same_kind(killers.binomial(2, 1), (0, 1))
        self.assert_same_kind(killers.binomial(1, 0), (1,))

    def test_to_the_bound(self):
        for n in range(1, 7):
            for r in range(n + 1):
                told = self.in_time(killers.binomial, n, r)
                self.assert_same_kind(told, oracles.binomial(n, r))
                self.assertEqual(oracles.value_at(told, 2), comb(n, r))
            for r in (0, n):
                self.assert_same_kind(killers.binomial(n, r), (1,))


class TestTrace(Case):

    def test_by_hand(self):
        wanted = [(0, 1), (-1, 0, 1), (0, -2, 0, 1), (1, 0, -3, 0, 1), (0, 3, 0, -4, 0, 1)]
        for n, top in enumerate(wanted, 1):
            self.assert_same_kind(self.in_time(killers.trace_of_killer, n), (top, (1,)))

    def test_by_its_words(self):
        for n in range(1, 6):
            whole = ((), (1,))
            for mat, fraction in killers.killer(n):
                worth = ((0,) * oracles.closed_rings(mat) + (1,), (1,))
                whole = polys.fraction_plus(whole, polys.fraction_times(fraction, worth))
            self.assert_same_kind(killers.trace_of_killer(n), whole)


class TestKillerAt(Case):

    def assert_right(self, n, number, prime):
        told = killers.killer_at(n, number, prime)
        there = all(oracles.value_at(oracles.binomial(n, r), number) % prime for r in range(1, n + 1))
        if not there:
            self.assertIsNone(told)
            return False
        self.assertIs(told.__class__, list)
        self.assertEqual(told, sorted(dict(told).items()))
        self.assertEqual(dict(told)[oracles.straight(n)], 1)
        for one in told:
            self.assertTrue(oracles.is_mat(one[0]) and one[0][:2] == (n, n))
            self.assertTrue(0 < one[1] < prime)
            self.assert_same_kind(one, (one[0], int(one[1])))
        self.assertTrue(killed_at(n, told, number, prime))
        return True

    def test_by_hand(self):
        hook, straight = (2, 2, (1, 0, 3, 2)), (2, 2, (2, 3, 0, 1))
        self.assertIsNone(killers.killer_at(2, 0, 5))
        self.assertIsNone(killers.killer_at(2, 10, 5))
        self.assert_same_kind(killers.killer_at(2, 1, 5), [(hook, 4), (straight, 1)])
        self.assert_same_kind(killers.killer_at(2, 2, 5), [(hook, 2), (straight, 1)])
        self.assert_same_kind(killers.killer_at(2, 1, 2), [(hook, 1), (straight, 1)])
        # Here the hooks themselves have 0, there is no killer of 2 and one of 3.
        e, f = oracles.hook(3, 0), oracles.hook(3, 1)
        both = [(oracles.joined(e, f)[1], 4), (oracles.joined(f, e)[1], 4), (oracles.straight(3), 1)]
        self.assert_same_kind(killers.killer_at(3, 0, 5), sorted(both))

    def test_one_string(self):
        for prime in PRIMES:
            for number in (0, 1, prime, -BIG):
                self.assert_same_kind(killers.killer_at(1, number, prime), [((1, 1, (1, 0)), 1)])

    def test_small_primes(self):
        found = {True: 0, False: 0}
        for n in range(1, 6):
            for prime in (2, 3, 5, 7, 11, 13):
                for number in range(prime):
                    found[self.assert_right(n, number, prime)] += 1
        self.assertGreater(min(found.values()), 40)

    def test_great_primes(self):
        found = {True: 0, False: 0}
        for n in range(2, 6):
            for prime in PRIMES[6:]:
                for number in list(range(5)) + list(range(5, prime, 1 if n < 4 else 13)):
                    found[self.assert_right(n, number, prime)] += 1
        for number in range(97):
            found[self.assert_right(5, number, 97)] += 1
        self.assertGreater(min(found.values()), 40)

    def test_numbers_below_0_and_of_thirty_digits(self):
        for n in range(1, 6):
            for prime in (2, 3, 5, 89, 97):
                for number in (-1, -2, -prime, -prime - 1, BIG, -BIG, 10 ** 29, 10 ** 29 + 7, prime * 10 ** 27):
                    self.assert_right(n, number, prime)
                    self.assert_same_kind(
                        killers.killer_at(n, number, prime), killers.killer_at(n, number % prime, prime))

    def test_it_is_the_killer_where_no_bottom_is_0(self):
        alike = 0
        for n in range(1, 6):
            whole = killers.killer(n)
            for prime in (3, 7, 97):
                for number in range(0, prime, 1 if prime < 10 else 9):
                    bottoms = [oracles.value_at(bottom, number) % prime for _, (_, bottom) in whole]
                    if all(bottoms):
                        tops = [oracles.value_at(top, number) for _, (top, _) in whole]
                        worths = [top * pow(bottom, -1, prime) % prime for top, bottom in zip(tops, bottoms)]
                        wanted = [(mat, worth) for (mat, _), worth in zip(whole, worths) if worth]
                        self.assert_same_kind(self.in_time(killers.killer_at, n, number, prime), wanted)
                        alike += 1
        self.assertGreater(alike, 30)


class TestErrors(Case):

    def test_wrong_numbers(self):
        one = [((1, 1, (1, 0)), ((1,), (1,)))]
        for n in BELOW_ONE:
            self.assert_raised_itself(InvalidNumber, n, killers.killer, n)
            self.assert_raised_itself(InvalidNumber, n, killers.trace_of_killer, n)
            self.assert_raised_itself(InvalidNumber, n, killers.is_killed, n, [])
            self.assert_raised_itself(InvalidNumber, n, killers.is_killed, n, one)
            for r in (0, 1, -3, 10 ** 30):
                self.assert_raised_itself(InvalidNumber, n, killers.binomial, n, r)
            for prime in [2, 97] + NO_PRIMES:
                self.assert_raised_itself(InvalidNumber, n, killers.killer_at, n, 3, prime)

    def test_wrong_r(self):
        for n in range(1, 7):
            for r in (-1, -n - 1, n + 1, n + 2, 10 ** 30, -(10 ** 30)):
                self.assert_raised_itself(InvalidNumber, r, killers.binomial, n, r)

    def test_no_primes(self):
        for n in range(1, 6):
            for prime in NO_PRIMES:
                for number in (0, 3, BIG):
                    self.assert_raised_itself(InvalidPrime, prime, killers.killer_at, n, number, prime)

    def test_right_behind_wrong(self):
        still = self.assert_answered_still
        still(killers.killer, (3,), (0,), (-1,))
        still(killers.trace_of_killer, (3,), (0,))
        still(killers.is_killed, (2, killers.killer(2)), (0, []), (-1, killers.killer(2)))
        still(killers.binomial, (4, 2), (0, 0), (4, 5), (4, -1))
        still(killers.killer_at, (3, 2, 7), (0, 2, 7), (3, 2, 8), (3, 2, 1))


class TestCalls(Case):

    def test_by_position_and_by_name(self):
        self.assert_by_name(killers.killer, n=3)
        self.assert_by_name(killers.is_killed, n=3, told=killers.killer(3))
        self.assert_by_name(killers.is_killed, n=3, told=killers.killer(3)[1:])
        self.assert_by_name(killers.binomial, n=5, r=2)
        self.assert_by_name(killers.killer_at, n=3, number=2, prime=7)
        self.assert_by_name(killers.trace_of_killer, n=4)

    def test_new_lists(self):
        for n in range(1, 6):
            self.assert_new_lists(killers.killer_at, n, 2, 97)
        self.assert_new_lists(killers.killer, 1)

    def test_what_was_told_may_be_passed_on(self):
        for n in range(1, 6):
            told = killers.killer(n)
            for share in (killers.trace_of_killer(n), (killers.binomial(n, 1), (1,)), told[0][1]):
                told = shared(told, share)
                self.assertIs(killers.is_killed(n, told), True)


if __name__ == "__main__":
    unittest.main()
