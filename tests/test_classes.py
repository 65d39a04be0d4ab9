"""classes.py: mats with the same halves, and what leads from one mat to another."""

import unittest

from hookmats import classes
from hookmats.errors import InvalidMat, InvalidNumber, InvalidPair, NotSquare
from hookmats.mats import lower_half, upper_half
from tests import oracles
from tests.checks import Case, NO_MATS

PAIR_CALLS = [classes.same_upper, classes.same_lower, classes.same_both, classes.led]
BAD, WORSE = (1, 1, (0, 1)), (2, 2, (3, 2, 1, 0))
ONE, TWO, THREE = oracles.straight(1), oracles.straight(2), oracles.straight(3)
THREE_ONE, ONE_THREE = (3, 1, (1, 0, 3, 2)), (1, 3, (3, 2, 1, 0))
# The shapes with pegs above and below, of at most eight pegs.
SHAPES = [(n, m) for pegs in (2, 4, 6, 8) for n, m in oracles.shapes(pegs) if n and m]


def between(outer, inner):
    return oracles.joined_once(oracles.joined_once(outer, inner)[1], outer)[1]


def first_led(one, other):
    """By a plain search over all square mats, ahead and behind, as tuples compare."""
    for ahead in oracles.all_mats(one[0], one[0]):
        for behind in oracles.all_mats(one[1], one[1]):
            if oracles.joined_once(oracles.joined_once(ahead, one)[1], behind)[1] == other:
                return ahead, behind
    return None


class TestSame(Case):

    def test_by_hand(self):
        e, f, ef = oracles.hook(3, 0), oracles.hook(3, 1), oracles.value(3, (0, 1))[1]
        self.assertEqual([classes.same_upper(e, ef), classes.same_lower(e, ef)], [True, False])
        self.assertEqual([classes.same_upper(f, ef), classes.same_lower(f, ef)], [False, True])
        self.assertEqual([classes.same_both(e, f), classes.same_both(e, THREE)], [True, False])
        self.assertEqual([classes.same_upper(e, THREE), classes.same_lower(e, THREE)], [False, False])

    def test_all_pairs(self):
        for n, m in SHAPES:
            told = oracles.all_mats(n, m)
            for one in told:
                for other in told:
                    upper = oracles.half_of(one) == oracles.half_of(other)
                    lower = oracles.half_of(oracles.flipped(one)) == oracles.half_of(oracles.flipped(other))
                    self.assertIs(classes.same_upper(one, other), upper)
                    self.assertIs(classes.same_lower(one, other), lower)
                    self.assertIs(classes.same_both(one, other), oracles.through(one) == oracles.through(other))
                    self.assertIs(upper, upper_half(one) == upper_half(other))
                    self.assertIs(lower, lower_half(one) == lower_half(other))
                    self.assertIs(upper and lower, one == other)

    def test_pegs_on_one_side_alone(self):
        caps = oracles.all_mats(6, 0)
        for one in caps:
            for other in caps:
                self.assertIs(classes.same_upper(one, other), one == other)
                self.assertIs(classes.same_lower(oracles.flipped(one), oracles.flipped(other)), one == other)

    def test_sixteen_pegs(self):
        one, other = oracles.value(8, (0, 3, 5))[1], oracles.value(8, (0, 3, 5, 4, 6))[1]
        self.assertIs(classes.same_upper(one, other), True)
        self.assertIs(classes.same_lower(one, other), False)
        self.assertIs(classes.same_both(one, other), True)


class TestLed(Case):

    def test_by_hand(self):
        e, f = oracles.hook(3, 0), oracles.hook(3, 1)
        self.assert_same_kind(classes.led(ONE, ONE), (ONE, ONE))
        self.assert_same_kind(classes.led(oracles.hook(2, 0), oracles.hook(2, 0)), (oracles.hook(2, 0),) * 2)
        self.assertIsNone(classes.led(e, THREE))
        self.assertIsNone(classes.led(oracles.hook(2, 0), TWO))
        self.assert_same_kind(classes.led(THREE, THREE), (THREE, THREE))
        self.assert_same_kind(classes.led(f, e), first_led(f, e))

    def test_all_pairs(self):
        none = 0
        for n, m in SHAPES:
            told = oracles.all_mats(n, m)
            for one in told:
                for other in told:
                    wanted = first_led(one, other)
                    none += wanted is None
                    self.assert_same_kind(classes.led(one, other), wanted)
        self.assertGreater(none, 100)

    def test_five_pegs_above_and_below(self):
        told = oracles.all_mats(5, 5)
        for one in told[::4]:
            for other in told[::3]:
                self.assert_same_kind(self.in_time(classes.led, one, other), first_led(one, other))

    def test_it_leads_just_where_no_more_strings_go_through(self):
        for shape in ((5, 5), (5, 3), (3, 5), (5, 1), (2, 4)):
            told = oracles.all_mats(*shape)
            for one in told:
                for other in told:
                    answer = classes.led(one, other)
                    self.assertIs(answer is not None, oracles.through(other) <= oracles.through(one))
                    if answer is not None:
                        whole = oracles.joined_once(oracles.joined_once(answer[0], one)[1], answer[1])[1]
                        self.assertEqual(whole, other)


class TestClasses(Case):

    def test_by_hand(self):
        e, f = oracles.hook(3, 0), oracles.hook(3, 1)
        ef, fe = oracles.value(3, (0, 1))[1], oracles.value(3, (1, 0))[1]
        self.assert_same_kind(classes.classes(3, 1), [sorted([e, ef]), sorted([f, fe])])
        self.assert_same_kind(classes.classes(3, 3), [[THREE]])
        self.assert_same_kind(classes.classes(1, 1), [[ONE]])
        self.assert_same_kind(classes.classes(2, 0), [[oracles.hook(2, 0)]])

    def test_a_plain_search(self):
        for n in range(1, 7):
            for many in range(n + 1):
                found = {}
                for mat in oracles.all_mats(n, n):
                    if oracles.through(mat) == many:
                        found.setdefault(oracles.half_of(mat), []).append(mat)
                wanted = sorted(sorted(told) for told in found.values())
                self.assert_same_kind(classes.classes(n, many), wanted)
                self.assertIs(wanted == [], (n - many) % 2 == 1)

    def test_seven_pegs(self):
        all_told = []
        for many, halves in ((7, 1), (5, 6), (3, 14), (1, 14)):
            told = self.in_time(classes.classes, 7, many)
            self.assertEqual([len(told), {len(one) for one in told}], [halves, {halves}])
            self.assertEqual(told, sorted(sorted(set(one)) for one in told))
            for one in told:
                self.assertEqual(len({oracles.half_of(mat) for mat in one}), 1)
                self.assertEqual({oracles.through(mat) for mat in one}, {many})
            all_told.extend(mat for one in told for mat in one)
        self.assertEqual(len(set(all_told)), 429)
        for many in (0, 2, 4, 6):
            self.assert_same_kind(classes.classes(7, many), [])


class TestOwnTwiceAndInverses(Case):

    def test_own_twice(self):
        for n, many in ((1, 1), (2, 2), (3, 5), (4, 12), (5, 36)):
            squares = oracles.all_mats(n, n)
            wanted = [mat for mat in squares if oracles.joined_once(mat, mat)[1] == mat]
            self.assertEqual(len(wanted), many)
            self.assert_same_kind(self.in_time(classes.own_twice, n), wanted)

    def test_inverses(self):
        for n in range(1, 6):
            squares = oracles.all_mats(n, n)
            for mat in squares:
                wanted = [x for x in squares if between(mat, x) == mat and between(x, mat) == x]
                self.assert_same_kind(self.in_time(classes.inverses, mat), wanted)
                self.assertIn(oracles.flipped(mat), wanted)
        self.assertEqual(classes.inverses(THREE), [THREE])
        self.assertEqual(len(classes.inverses(oracles.hook(3, 0))), 4)


class TestErrors(Case):

    def test_no_mats(self):
        for call in PAIR_CALLS:
            for told in NO_MATS.values():
                self.assert_raised_itself(InvalidMat, told, call, told, TWO)
                self.assert_raised_itself(InvalidMat, told, call, TWO, told)
            self.assert_raised_itself(InvalidMat, BAD, call, BAD, WORSE)
            self.assert_raised_itself(InvalidMat, WORSE, call, WORSE, BAD)
        for told in NO_MATS.values():
            self.assert_raised_itself(InvalidMat, told, classes.inverses, told)

    def test_not_square(self):
        for mat in (THREE_ONE, ONE_THREE, (2, 0, (1, 0)), (0, 2, (1, 0))):
            self.assert_raised_itself(NotSquare, mat, classes.inverses, mat)
        crossing = (3, 1, (2, 3, 0, 1))
        self.assert_raised_itself(InvalidMat, crossing, classes.inverses, crossing)

    def test_wrong_pairs(self):
        for call in PAIR_CALLS:
            self.assert_raised(InvalidPair, (2, 3), call, TWO, THREE)
            self.assert_raised(InvalidPair, (3, 2), call, THREE, TWO)
            self.assert_raised(InvalidPair, (3, 1), call, THREE_ONE, ONE_THREE)
            self.assert_raised(InvalidPair, (1, 3), call, ONE_THREE, THREE_ONE)
            # As many above: then those below are told.
            self.assert_raised(InvalidPair, (1, 3), call, THREE_ONE, THREE)
            self.assert_raised(InvalidPair, (3, 1), call, THREE, THREE_ONE)
            self.assert_raised(InvalidPair, (3, 1), call, ONE_THREE, ONE)
            # As many below, or as many together.
            self.assert_raised(InvalidPair, (3, 1), call, THREE_ONE, ONE)
            self.assert_raised(InvalidPair, (2, 3), call, TWO, THREE_ONE)

    def test_no_mats_come_ahead_of_wrong_pairs(self):
        for call in PAIR_CALLS:
            self.assert_raised_itself(InvalidMat, BAD, call, THREE, BAD)
            self.assert_raised_itself(InvalidMat, BAD, call, BAD, THREE)

    def test_wrong_numbers(self):
        for n in (0, -1, -2, -(10 ** 30)):
            self.assert_raised_itself(InvalidNumber, n, classes.own_twice, n)
            for many in (0, 1, -1, -5, n, 7):
                self.assert_raised_itself(InvalidNumber, n, classes.classes, n, many)
        for n in range(1, 8):
            for many in (-1, -2, -n, n + 1, n + 2, n + 3, 10 ** 30, -(10 ** 30)):
                self.assert_raised_itself(InvalidNumber, many, classes.classes, n, many)

    def test_right_behind_wrong(self):
        e, f = oracles.hook(3, 0), oracles.hook(3, 1)
        for call in PAIR_CALLS:
            self.assert_answered_still(call, (f, e), (f, BAD), (BAD, e), (f, TWO), (THREE_ONE, e))
        self.assert_answered_still(classes.classes, (4, 2), (0, 0), (4, 5), (4, -1))
        self.assert_answered_still(classes.own_twice, (3,), (0,), (-3,))
        self.assert_answered_still(classes.inverses, (e,), (BAD,), (THREE_ONE,))


class TestCalls(Case):

    def test_by_position_and_by_name(self):
        e, ef = oracles.hook(3, 0), oracles.value(3, (0, 1))[1]
        for call in PAIR_CALLS:
            self.assert_by_name(call, one=e, other=ef)
        self.assert_by_name(classes.classes, n=5, many=3)
        self.assert_by_name(classes.own_twice, n=3)
        self.assert_by_name(classes.inverses, mat=ef)

    def test_new_lists(self):
        self.assert_new_lists(classes.classes, 4, 2)
        self.assert_new_lists(classes.classes, 4, 3)
        self.assert_new_lists(classes.own_twice, 3)
        self.assert_new_lists(classes.inverses, oracles.hook(3, 0))

    def test_what_was_told_may_be_passed_on(self):
        for told in classes.classes(4, 2):
            for one in told:
                self.assertIs(classes.same_upper(told[0], one), True)
                for x in classes.inverses(one):
                    self.assertIn(one, classes.inverses(x))
                    self.assertIs(classes.same_both(one, x), True)


if __name__ == "__main__":
    unittest.main()
