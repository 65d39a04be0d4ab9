"""braids.py, [9]: braid words, their sums, and the polynomials of closed ones."""

import itertools
import random
import unittest

from hookmats import braids
from hookmats.errors import InvalidBraid, InvalidNumber, InvalidPeg
from tests import oracles
from tests.checks import BELOW_ONE, Case

H, TWO = (2, 2, (1, 0, 3, 2)), (2, 2, (2, 3, 0, 1))
# The polynomials of the trefoil, its mirror, the figure eight, two loops linked, five crossings, by hand or by tables.
TREFOIL = ((-16, -1), (-12, 1), (-4, 1))
EIGHT = ((-8, 1), (-4, -1), (0, 1), (4, -1), (8, 1))
LINKED = ((-10, -1), (-2, -1))
FIVE = ((-28, -1), (-24, 1), (-20, -1), (-16, 1), (-8, 1))
FREE = [braids.writhe, braids.undone, braids.turned_word]


def numbers_of(n):
    return [number for number in range(1 - n, n) if number]


def some_word(chance, n, length):
    return tuple(chance.choice(numbers_of(n)) for _ in range(length)) if n > 1 else ()


def some_words(n, longest, seed):
    """One word of each length."""
    chance = random.Random(seed)
    return [some_word(chance, n, length) for length in range(longest + 1 if n > 1 else 1)]


def moves(n, word, longest):
    """All words that one move of braids makes of a word, also longer ones."""
    found = [oracles.moved_braid(word, at) for at in range(len(word))]
    if len(word) + 2 <= longest:
        for at in range(len(word) + 1):
            found.extend(word[:at] + (number, -number) + word[at:] for number in numbers_of(n))
    return [other for other in found if other is not None]


def led_to(chance, n, word, many, longest):
    """A word that so many moves lead to."""
    for _ in range(many):
        word = chance.choice(moves(n, word, longest) or [word])
    return word


class TestBraidSum(Case):

    def test_by_hand(self):
        self.assert_same_kind(braids.braid_sum(2, (1,)), [(H, ((-1, 1),)), (TWO, ((1, 1),))])
        self.assert_same_kind(braids.braid_sum(2, (-1,)), [(H, ((1, 1),)), (TWO, ((-1, 1),))])
        self.assert_same_kind(braids.braid_sum(2, (1, -1)), [(TWO, ((0, 1),))])
        # A A, and of the hook 2 less A ** -2 times (A ** 2 + A ** -2).
        self.assert_same_kind(braids.braid_sum(2, (1, 1)), [(H, ((-4, -1), (0, 1))), (TWO, ((2, 1),))])
        self.assert_same_kind(braids.braid_sum(1, ()), [((1, 1, (1, 0)), ((0, 1),))])
        e, f = oracles.hook(3, 0), oracles.hook(3, 1)
        self.assert_same_kind(braids.braid_sum(3, (1, -2)), sorted([
            (oracles.straight(3), ((0, 1),)), (e, ((-2, 1),)), (f, ((2, 1),)), (oracles.joined(e, f)[1], ((0, 1),))]))

    def test_no_crossing(self):
        for n in range(1, 6):
            self.assert_same_kind(braids.braid_sum(n, ()), [(oracles.straight(n), ((0, 1),))])

    def assert_sum(self, n, word):
        told = self.in_time(braids.braid_sum, n, word)
        self.assert_same_kind(told, oracles.braid_sum(n, word))
        for mat, laurent in told:
            self.assertTrue(laurent)
            self.assertTrue(all(coefficient for _, coefficient in laurent))
            self.assertEqual([power for power, _ in laurent], sorted({power for power, _ in laurent}))

    def test_all_short_words(self):
        for n in range(1, 6):
            for length in range(4 if n < 5 else 3):
                for word in itertools.product(numbers_of(n), repeat=length):
                    self.assert_sum(n, word)

    def test_words_of_none_to_twelve_crossings(self):
        for n in range(1, 6):
            for seed in range(2):
                for word in some_words(n, 12, 10 * n + seed):
                    self.assert_sum(n, word)

    def test_twelve_crossings(self):
        for n in range(2, 6):
            for word in ((1,) * 12, (-(n - 1),) * 12, (1, -1) * 6, tuple(range(1, n)) * 12, (1, 1 - n) * 6):
                self.assert_sum(n, word[:12])
        self.assert_sum(5, (1, -2, 3, -4) * 3)
        self.assert_sum(5, (4, 3, 2, 1, -1, -2, -3, -4, 2, 3, 2, 3))

    def test_all_that_is_undone(self):
        for n in range(1, 6):
            for word in some_words(n, 6, n):
                whole = word + tuple(-number for number in reversed(word))
                self.assert_same_kind(braids.braid_sum(n, whole), [(oracles.straight(n), ((0, 1),))])


class TestSameSums(Case):

    def test_by_hand(self):
        self.assertIs(braids.same_sums(2, (1, -1), ()), True)
        self.assertIs(braids.same_sums(3, (1, 2, 1), (2, 1, 2)), True)
        self.assertIs(braids.same_sums(4, (1, -3), (-3, 1)), True)
        self.assertIs(braids.same_sums(3, (1, 2, -1), (-2, 1, 2)), True)
        for n, one, other in (
            (2, (1,), (-1,)), (2, (1,), ()), (3, (1,), (2,)), (3, (1, 2), (2, 1)), (3, (1, -2, 1), (-2, 1, -2)),
            (2, (1, 1), (1,)), (3, (1, 2, 1), (1, 2, 2)), (2, (1, 1), (-1, -1)), (3, (1, -2), (-2, 1)),
        ):
            self.assertIs(braids.same_sums(n, one, other), False)
            self.assertIs(braids.same_sums(n, other, one), False)

    def test_words_that_one_move_leads_to(self):
        for n in range(2, 6):
            for word in some_words(n, 6, 20 + n):
                for other in moves(n, word, 12):
                    self.assertIs(braids.same_sums(n, word, other), True)

    def test_words_that_many_moves_lead_to(self):
        chance, unlike = random.Random(4), 0
        for n in range(2, 6):
            for word in some_words(n, 12, 30 + n):
                other = led_to(chance, n, word, 40, 12)
                unlike += other != word
                self.assertIs(self.in_time(braids.same_sums, n, word, other), True)
        self.assertGreater(unlike, 40)

    def test_any_words(self):
        found = {True: 0, False: 0}
        for n in (2, 3):
            told = [word for length in range(4) for word in itertools.product(numbers_of(n), repeat=length)]
            sums = {word: oracles.braid_sum(n, word) for word in told}
            for one, other in itertools.product(told, told[::3] if n == 3 else told):
                wanted = sums[one] == sums[other]
                found[wanted] += 1
                self.assertIs(braids.same_sums(n, one, other), wanted)
        self.assertGreater(min(found.values()), 100)

    def test_one_sign_changed(self):
        for n in range(2, 6):
            for word in some_words(n, 12, 40 + n)[1:]:
                for at in range(len(word)):
                    other = word[:at] + (-word[at],) + word[at + 1:]
                    self.assertIs(braids.same_sums(n, word, other), False)


class TestWrithe(Case):

    def test_by_hand(self):
        for word, wanted in (((), 0), ((1,), 1), ((-1,), -1), ((1, -2, 1), 1), ((-3, -3, 5), -1), ((7, -7), 0)):
            self.assert_same_kind(braids.writhe(word), wanted)

    def test_any_words(self):
        for word in some_words(5, 12, 5) + [(10 ** 30, -(10 ** 30), 9), (-(10 ** 30),) * 12]:
            ups = [number for number in word if number > 0]
            self.assert_same_kind(braids.writhe(word), 2 * len(ups) - len(word))


class TestClosedPoly(Case):

    def test_by_hand(self):
        for n, word, wanted in (
            (1, (), ((0, 1),)), (2, (1,), ((0, 1),)), (2, (-1,), ((0, 1),)), (2, (), ((-2, -1), (2, -1))),
            (3, (), ((-4, 1), (0, 2), (4, 1))), (3, (1, -2), ((0, 1),)), (5, (1, 2, 3, 4), ((0, 1),)),
            (2, (1, 1), LINKED), (2, (-1, -1), tuple(sorted((-a, c) for a, c in LINKED))),
            (2, (1, 1, 1), TREFOIL), (2, (-1, -1, -1), tuple(sorted((-a, c) for a, c in TREFOIL))),
            (3, (1, 2, 1, 2), TREFOIL), (3, (1, -2, 1, -2), EIGHT), (3, (-1, 2, -1, 2), EIGHT), (2, (1,) * 5, FIVE),
        ):
            self.assert_same_kind(braids.closed_poly(n, word), wanted)

    def test_words_of_none_to_twelve_crossings(self):
        for n in range(1, 6):
            for word in some_words(n, 12, 50 + n) + [word * 12 for word in ((1,), (-1,)) if n > 1]:
                told = self.in_time(braids.closed_poly, n, word)
                self.assert_same_kind(told, oracles.closed_poly(n, word))
                self.assertTrue(all(coefficient for _, coefficient in told))

    def test_all_short_words(self):
        for n in range(1, 5):
            for length in range(4):
                for word in itertools.product(numbers_of(n), repeat=length):
                    self.assert_same_kind(braids.closed_poly(n, word), oracles.closed_poly(n, word))

    def test_it_stays_through_moves(self):
        chance = random.Random(6)
        for n in range(2, 6):
            for word in some_words(n, 10, 60 + n):
                wanted = braids.closed_poly(n, word)
                for other in moves(n, word, 12) if len(word) < 6 else []:
                    self.assertEqual(braids.closed_poly(n, other), wanted)
                self.assertEqual(braids.closed_poly(n, led_to(chance, n, word, 30, 12)), wanted)
                for number in numbers_of(n):
                    self.assertEqual(braids.closed_poly(n, (number,) + word + (-number,)), wanted)

    def test_it_stays_turned_and_longer(self):
        for n in range(1, 6):
            for word in some_words(n, 11 if n < 5 else 12, 70 + n):
                wanted = turned = braids.closed_poly(n, word)
                other = word
                for _ in range(len(word)):
                    other = braids.turned_word(other)
                    self.assertEqual(braids.closed_poly(n, other), turned)
                self.assertEqual(other, word)
                for sign in (1, -1) if n < 5 else ():
                    more = braids.longer(n, word, sign)
                    self.assertEqual(self.in_time(braids.closed_poly, n + 1, more), wanted)
                    if n < 4 and len(more) < 12:
                        self.assertEqual(braids.closed_poly(n + 2, braids.longer(n + 1, more, -sign)), wanted)

    def test_undone_it_has_the_powers_of_the_other_sign(self):
        for n in range(1, 6):
            for word in some_words(n, 12, 80 + n):
                wanted = tuple(sorted((-power, one) for power, one in braids.closed_poly(n, word)))
                self.assertEqual(braids.closed_poly(n, braids.undone(word)), wanted)

    def test_it_tells_some_apart(self):
        told = [braids.closed_poly(3, word) for word in (
            (1, 2), (1, 1, 1, 2), (-1, -1, -1, 2), (1, -2, 1, -2), (1,), (), (1, 1, 2, 2), (1, 1, 1, 1, 1, 2))]
        self.assertEqual(len(set(told)), len(told))


class TestUndoneAndTurned(Case):

    def test_undone(self):
        for word, wanted in (((), ()), ((1,), (-1,)), ((1, -2, 3), (-3, 2, -1)), ((10 ** 30, 1), (-1, -(10 ** 30)))):
            self.assert_same_kind(braids.undone(word), wanted)
        for word in some_words(5, 12, 7):
            self.assert_same_kind(braids.undone(word), tuple(-word[-1 - at] for at in range(len(word))))
            self.assertEqual(braids.undone(braids.undone(word)), word)
            self.assertIs(braids.same_sums(5, word[:6] + braids.undone(word[:6]), ()), True)

    def test_turned_word(self):
        for word, wanted in (
            ((1,), (1,)), ((1, 2), (2, 1)), ((1, -2, 3), (-2, 3, 1)), ((-(10 ** 30), 4, 4), (4, 4, -(10 ** 30)))
        ):
            self.assert_same_kind(braids.turned_word(word), wanted)
        for word in some_words(5, 12, 8)[1:]:
            told = braids.turned_word(word)
            self.assert_same_kind(told, tuple(word[(at + 1) % len(word)] for at in range(len(word))))


class TestMoved(Case):

    def test_by_hand(self):
        for n, word, at, wanted in (
            (3, (1, 2, 1), 0, (2, 1, 2)), (3, (2, 1, 2), 0, (1, 2, 1)), (3, (-1, -2, -1), 0, (-2, -1, -2)),
            (3, (-2, -1, -2), 0, (-1, -2, -1)), (4, (2, 3, 2), 0, (3, 2, 3)), (5, (1, 4, 3, 4), 1, (1, 3, 4, 3)),
            (4, (1, 3), 0, (3, 1)), (4, (1, -3), 0, (-3, 1)), (4, (-3, -1), 0, (-1, -3)), (5, (-4, 1, 4), 0, (1, -4, 4)),
            (2, (1, -1), 0, ()), (2, (-1, 1), 0, ()), (4, (2, 3, -3, 1), 1, (2, 1)), (2, (1, -1, 1), 1, (1,)),
            # A sign that is wrong, or two alike, or sizes that differ by 1.
            (3, (1, -2, 1), 0, None), (3, (1, 2, -1), 0, None), (3, (-1, 2, 1), 0, None), (3, (-1, -2, 1), 0, None),
            (3, (1, -2, -1), 0, None), (3, (-1, 2, -1), 0, None), (2, (1, 1), 0, None), (2, (-1, -1), 0, None),
            (3, (1, 2), 0, None), (3, (1, -2), 0, None), (3, (1, 2, 2), 0, None), (4, (2, 3, 1), 0, None),
            (4, (1, 2, 3), 0, None), (2, (1, 1, 1), 0, None), (5, (2, 3, 4), 0, None),
            # The last place, and the last but one.
            (2, (1,), 0, None), (3, (1, 2, 1), 2, None), (3, (1, 2, 1), 1, None), (4, (1, 3), 1, None),
            (2, (1, -1), 1, None), (4, (2, 1, 3), 1, (2, 3, 1)),
        ):
            self.assert_same_kind(braids.moved(n, word, at), wanted)

    def test_all_short_words(self):
        found = {}
        for n in range(2, 6):
            for length in range(1, 5 if n < 5 else 4):
                for word in itertools.product(numbers_of(n), repeat=length):
                    for at in range(length):
                        told = braids.moved(n, word, at)
                        self.assert_same_kind(told, oracles.moved_braid(word, at))
                        kind = None if told is None else len(word) - len(told) + sum(told) - sum(word)
                        found[kind] = found.get(kind, 0) + 1
        # None, those exchanged, those left out, and neighbours made each other.
        self.assertEqual(set(found), {None, 0, 2, 1, -1})

    def test_each_place_of_longer_words(self):
        for n in range(2, 6):
            for seed in range(30):
                for word in some_words(n, 12, 1000 * n + seed):
                    for at in range(len(word)):
                        told = braids.moved(n, word, at)
                        self.assert_same_kind(told, oracles.moved_braid(word, at))
                        if told is not None and seed < 2:
                            self.assertIs(braids.same_sums(n, word, told), True)
                            self.assertEqual(braids.closed_poly(n, word), braids.closed_poly(n, told))


class TestLonger(Case):

    def test_by_hand(self):
        self.assert_same_kind(braids.longer(1, (), 1), (1,))
        self.assert_same_kind(braids.longer(1, (), -1), (-1,))
        self.assert_same_kind(braids.longer(3, (1, -2), 1), (1, -2, 3))
        self.assert_same_kind(braids.longer(3, (1, -2), -1), (1, -2, -3))

    def test_to_the_bound(self):
        for n in range(1, 5):
            for word in some_words(n, 11, 90 + n):
                self.assert_same_kind(braids.longer(n, word, 1), word + (n,))
                self.assert_same_kind(braids.longer(n, word, -1), word + (-n,))


class TestErrors(Case):

    def test_wrong_numbers(self):
        for n in BELOW_ONE:
            for word in ((), (1,), (0,), (-5, 10 ** 30)):
                self.assert_raised_itself(InvalidNumber, n, braids.braid_sum, n, word)
                self.assert_raised_itself(InvalidNumber, n, braids.closed_poly, n, word)
                for other in ((), (0,)):
                    self.assert_raised_itself(InvalidNumber, n, braids.same_sums, n, word, other)
                for at in (0, -1, 9):
                    self.assert_raised_itself(InvalidNumber, n, braids.moved, n, word, at)
                for sign in (1, -1, 0, 7):
                    self.assert_raised_itself(InvalidNumber, n, braids.longer, n, word, sign)

    def test_crossings_that_there_are_not(self):
        for n in range(1, 6):
            right = (1, 1 - n)[:n - 1]
            for wrong in (0, n, -n, n + 1, -n - 1, 10 ** 30, -(10 ** 30)):
                for ahead in ((), right, right * 3):
                    for behind in ((), right, (0,), (-99, 99)):
                        word = ahead + (wrong,) + behind
                        self.assert_raised_itself(InvalidBraid, wrong, braids.braid_sum, n, word)
                        self.assert_raised_itself(InvalidBraid, wrong, braids.closed_poly, n, word)
                        self.assert_raised_itself(InvalidBraid, wrong, braids.same_sums, n, word, ())
                        self.assert_raised_itself(InvalidBraid, wrong, braids.same_sums, n, right, word)
                        self.assert_raised_itself(InvalidBraid, wrong, braids.same_sums, n, word, (0, 77))
                        for at in (0, 1, -1, 99):
                            self.assert_raised_itself(InvalidBraid, wrong, braids.moved, n, word, at)
                        for sign in (1, -1, 0, 2):
                            self.assert_raised_itself(InvalidBraid, wrong, braids.longer, n, word, sign)

    def test_0_where_no_n_is_told(self):
        for word in ((0,), (1, 0), (0, 1), (5, -7, 0, 2), (10 ** 30, 0), (0, 0)):
            for call in FREE:
                self.assert_raised(InvalidBraid, 0, call, word)
        for word in ((1,), (-1,), (99, -99), (10 ** 30, -(10 ** 30))):
            for call in FREE:
                call(word)

    def test_places_that_there_are_not(self):
        for n in range(1, 6):
            for word in some_words(n, 12, 100 + n):
                for at in (-1, -len(word) - 1, len(word), len(word) + 1, 10 ** 30, -(10 ** 30)):
                    self.assert_raised_itself(InvalidPeg, at, braids.moved, n, word, at)
        self.assert_raised(InvalidPeg, 0, braids.moved, 3, (), 0)

    def test_wrong_signs(self):
        for n in range(1, 5):
            for word in some_words(n, 11, 110 + n):
                for sign in (0, 2, -2, n + 1, -n - 1, 10 ** 30, -(10 ** 30)):
                    self.assert_raised_itself(InvalidNumber, sign, braids.longer, n, word, sign)

    def test_nothing_to_turn(self):
        self.assert_raised(InvalidBraid, (), braids.turned_word, ())
        self.assertEqual(braids.undone(()), ())

    def test_right_behind_wrong(self):
        still = self.assert_answered_still
        for call in (braids.braid_sum, braids.closed_poly):
            still(call, (3, (1, -2)), (0, ()), (3, (3,)), (3, (1, 0)))
        still(braids.same_sums, (3, (1, 2, 1), (2, 1, 2)), (0, (), ()), (3, (3,), ()), (3, (), (0,)))
        still(braids.writhe, ((1, -2, 1),), ((0,),))
        still(braids.undone, ((1, -2, 1),), ((0,),))
        still(braids.turned_word, ((1, -2, 1),), ((0,),), ((),))
        still(braids.moved, (3, (1, 2, 1), 0), (0, (), 0), (3, (3,), 0), (3, (1,), 1), (3, (1,), -1))
        still(braids.longer, (3, (1, 2), -1), (0, (), 1), (3, (3,), 1), (3, (1,), 0))


class TestCalls(Case):

    def test_by_position_and_by_name(self):
        self.assert_by_name(braids.braid_sum, n=3, word=(1, -2))
        self.assert_by_name(braids.same_sums, n=3, one=(1, 2, 1), other=(2, 1, 2))
        self.assert_by_name(braids.writhe, word=(1, 1, -2))
        self.assert_by_name(braids.closed_poly, n=3, word=(1, -2, 1, -2))
        self.assert_by_name(braids.undone, word=(1, 2, -3))
        self.assert_by_name(braids.moved, n=4, word=(2, 1, 3), at=1)
        self.assert_by_name(braids.longer, n=3, word=(1, 2), sign=-1)
        self.assert_by_name(braids.turned_word, word=(1, 2, -3))

    def test_new_lists(self):
        for n in range(1, 6):
            for word in some_words(n, 5, 120 + n):
                self.assert_new_lists(braids.braid_sum, n, word)

    def test_what_was_told_may_be_passed_on(self):
        word = braids.longer(3, braids.moved(3, braids.turned_word(braids.undone((1, 2, -2, 1))), 1) or (1,), 1)
        self.assert_same_kind(braids.braid_sum(4, word), oracles.braid_sum(4, word))
        self.assert_same_kind(braids.closed_poly(4, word), oracles.closed_poly(4, word))


if __name__ == "__main__":
    unittest.main()
