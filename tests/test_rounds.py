"""rounds.py, [11] and [9]: two arches, one on each side of the line of pegs, and their rounds."""

import itertools
import random
import unittest

from hookmats import mats, rounds
from hookmats.errors import InvalidMat, InvalidNumber, InvalidPair
from tests import oracles
from tests.checks import BELOW_ONE, Case, NO_ARCHES, NO_MATS

WIDE, FLAT, TWO = (4, 0, (3, 2, 1, 0)), (4, 0, (1, 0, 3, 2)), (2, 0, (1, 0))
BAD, WORSE = (2, 0, (0, 1)), (1, 1, (1, 0))
GREAT = 10 ** 30 - 1
TWO_CALLS = [rounds.rounds, rounds.how_many_rounds, rounds.turns_to]


def arches(h):
    return oracles.all_mats(2 * h, 0) if h < 6 else mats.all_mats(2 * h, 0)


def some_pairs(h, many, seed):
    chance = random.Random(seed)
    told = arches(h)
    return [(chance.choice(told), chance.choice(told)) for _ in range(many)]


class TestRounds(Case):

    def test_by_hand(self):
        self.assert_same_kind(rounds.rounds(WIDE, FLAT), [(0, 3, 2, 1)])
        self.assert_same_kind(rounds.rounds(FLAT, WIDE), [(0, 1, 2, 3)])
        self.assert_same_kind(rounds.rounds(WIDE, WIDE), [(0, 3), (1, 2)])
        self.assert_same_kind(rounds.rounds(TWO, TWO), [(0, 1)])
        one, other = (6, 0, (5, 2, 1, 4, 3, 0)), (6, 0, (1, 0, 5, 4, 3, 2))
        self.assert_same_kind(rounds.rounds(one, other), [(0, 5, 2, 1), (3, 4)])
        self.assert_same_kind(rounds.rounds(other, one), [(0, 1, 2, 5), (3, 4)])

    def assert_rounds(self, one, other):
        wanted = oracles.rounds(one, other)
        self.assert_same_kind(rounds.rounds(one, other), wanted)
        self.assert_same_kind(rounds.how_many_rounds(one, other), len(wanted))
        return len(wanted)

    def test_all_small_ones(self):
        for h in range(1, 6):
            for one, other in itertools.product(arches(h), repeat=2):
                many = self.assert_rounds(one, other)
                self.assertTrue(1 <= many <= h)
                self.assertEqual(many == h, one == other)

    def test_to_the_bound(self):
        for h in (6, 7, 8):
            for one, other in some_pairs(h, 150, h):
                many = self.assert_rounds(one, other)
                self.assertTrue(1 <= many <= h)
                self.assertEqual(self.assert_rounds(one, one), h)
        wide = (16, 0, tuple(range(15, -1, -1)))
        flat = (16, 0, tuple(peg ^ 1 for peg in range(16)))
        self.assertEqual(self.assert_rounds(wide, flat), 4)
        self.assertEqual(self.assert_rounds(wide, rounds.turned_arch(flat, 1)), 5)

    def test_as_many_if_both_are_turned(self):
        for h in range(1, 6):
            for one, other in itertools.product(arches(h)[::2], arches(h)):
                many = rounds.how_many_rounds(one, other)
                turned = rounds.turned_arch(one, 1), rounds.turned_arch(other, 1)
                self.assertEqual(rounds.how_many_rounds(*turned), many)
        for h in (6, 7, 8):
            for one, other in some_pairs(h, 60, 10 + h):
                turned = rounds.turned_arch(one, 1), rounds.turned_arch(other, 1)
                self.assertEqual(rounds.how_many_rounds(*turned), rounds.how_many_rounds(one, other))


class TestPairs(Case):

    def test_rows_by_hand(self):
        self.assert_same_kind(rounds.pairs_row(1), [0, 1])
        self.assert_same_kind(rounds.pairs_row(2), [0, 2, 2])
        self.assert_same_kind(rounds.pairs_row(3), [0, 8, 12, 5])
        self.assert_same_kind(rounds.pairs_row(4), [0, 42, 84, 56, 14])

    def test_rows_against_all_arches(self):
        for h in range(1, 6):
            told = [len(oracles.rounds(one, other)) for one, other in itertools.product(arches(h), repeat=2)]
            wanted = [told.count(many) for many in range(h + 1)]
            self.assert_same_kind(self.in_time(rounds.pairs_row, h), wanted)

    def test_partners(self):
        self.assert_same_kind(rounds.partners(WIDE, 2), [WIDE])
        self.assert_same_kind(rounds.partners(WIDE, 1), [FLAT])
        for h in range(1, 6):
            for arch in arches(h):
                for many in range(h + 2):
                    wanted = [other for other in arches(h) if len(oracles.rounds(arch, other)) == many]
                    self.assert_same_kind(rounds.partners(arch, many), wanted)
                for many in (0, h + 1, 2 * h, GREAT):
                    self.assert_same_kind(rounds.partners(arch, many), [])
                self.assert_same_kind(rounds.partners(arch, h), [arch])

    def test_partners_to_the_bound(self):
        for h in (6, 7):
            for arch, _ in some_pairs(h, 4, 20 + h):
                found = {}
                for other in arches(h):
                    found.setdefault(len(oracles.rounds(arch, other)), []).append(other)
                for many in [0, GREAT] + list(range(1, h + 2)):
                    self.assert_same_kind(self.in_time(rounds.partners, arch, many), found.get(many, []))

    def test_first_pairs(self):
        self.assert_same_kind(rounds.first_pair(2, 1), (FLAT, WIDE))
        self.assert_same_kind(rounds.first_pair(1, 1), (TWO, TWO))
        for h in range(1, 6):
            for many in [0, GREAT] + list(range(1, h + 3)):
                pairs = ((one, other) for one, other in itertools.product(arches(h), repeat=2)
                         if len(oracles.rounds(one, other)) == many)
                wanted = next(pairs, None)
                self.assertEqual(wanted is None, not 1 <= many <= h)
                self.assert_same_kind(self.in_time(rounds.first_pair, h, many), wanted)


class TestTurned(Case):

    def test_by_hand(self):
        self.assert_same_kind(rounds.turned_arch(WIDE, 1), FLAT)
        self.assert_same_kind(rounds.turned_arch(FLAT, 1), WIDE)
        self.assert_same_kind(rounds.turned_arch(TWO, 1), TWO)
        one = (6, 0, (1, 0, 5, 4, 3, 2))
        self.assert_same_kind(rounds.turned_arch(one, 1), (6, 0, (3, 2, 1, 0, 5, 4)))
        self.assert_same_kind(rounds.turned_arch(one, 2), (6, 0, (5, 4, 3, 2, 1, 0)))
        self.assert_same_kind(rounds.turned_arch(one, 10 ** 6), rounds.turned_arch(one, 10 ** 6 - 6 * 166666))

    def test_all_arches(self):
        for h in range(1, 6):
            for arch in arches(h):
                for steps in range(4 * h + 2):
                    told = rounds.turned_arch(arch, steps)
                    self.assert_same_kind(told, oracles.turned_arch(arch, steps))
                    self.assertTrue(oracles.is_mat(told))
                self.assert_same_kind(rounds.turned_arch(arch, 0), arch)
                self.assert_same_kind(rounds.turned_arch(arch, 2 * h), arch)

    def test_to_the_bound(self):
        for h in (6, 7, 8):
            for arch, _ in some_pairs(h, 15, 30 + h):
                for steps in [0, 1, 2 * h - 1, 2 * h, 2 * h + 1, 999, 123457, 10 ** 6 - 1, 10 ** 6]:
                    told = self.in_time(rounds.turned_arch, arch, steps)
                    self.assert_same_kind(told, oracles.turned_arch(arch, steps))

    def test_in_two_steps_as_in_one(self):
        for h in (2, 4, 8):
            for arch, _ in some_pairs(h, 10, 40 + h):
                for steps, more in ((1, 1), (3, 5), (2 * h - 1, 2), (999999, 1), (500000, 499999)):
                    once = rounds.turned_arch(arch, steps + more)
                    self.assertEqual(rounds.turned_arch(rounds.turned_arch(arch, steps), more), once)

    def test_turns_to(self):
        self.assert_same_kind(rounds.turns_to(FLAT, WIDE), 1)
        self.assert_same_kind(rounds.turns_to(FLAT, FLAT), 0)
        self.assert_same_kind(rounds.turns_to((6, 0, (1, 0, 5, 4, 3, 2)), (6, 0, (5, 4, 3, 2, 1, 0))), 2)
        self.assertIsNone(rounds.turns_to((6, 0, (1, 0, 5, 4, 3, 2)), (6, 0, (1, 0, 3, 2, 5, 4))))
        found = set()
        for h in range(1, 6):
            for one, other in itertools.product(arches(h)[::1 if h < 5 else 4], arches(h)):
                steps = (steps for steps in range(2 * h) if oracles.turned_arch(one, steps) == other)
                wanted = next(steps, None)
                self.assert_same_kind(rounds.turns_to(one, other), wanted)
                found.add(wanted)
        self.assertTrue({None, *range(9)} <= found)

    def test_turns_to_at_the_bound(self):
        for h in (6, 7, 8):
            for one, other in some_pairs(h, 15, 50 + h):
                for goal in [other] + [oracles.turned_arch(one, steps) for steps in range(2 * h)]:
                    steps = (steps for steps in range(2 * h) if oracles.turned_arch(one, steps) == goal)
                    self.assert_same_kind(self.in_time(rounds.turns_to, one, goal), next(steps, None))


class TestErrors(Case):

    def test_no_arches(self):
        for wrong in list(NO_MATS.values()) + NO_ARCHES:
            for call in TWO_CALLS:
                for right in (WIDE, TWO):
                    self.assert_raised_itself(InvalidMat, wrong, call, wrong, right)
                    self.assert_raised_itself(InvalidMat, wrong, call, right, wrong)
                for other in (BAD, WORSE, (0, 2, (1, 0))):
                    self.assert_raised_itself(InvalidMat, wrong, call, wrong, other)
            for number in (0, 1, -1, GREAT):
                self.assert_raised_itself(InvalidMat, wrong, rounds.partners, wrong, number)
                self.assert_raised_itself(InvalidMat, wrong, rounds.turned_arch, wrong, number)

    def test_wrong_pairs(self):
        for h, k in itertools.permutations(range(1, 9), 2):
            one, other = (2 * h, 0, tuple(range(2 * h - 1, -1, -1))), (2 * k, 0, tuple(peg ^ 1 for peg in range(2 * k)))
            for call in TWO_CALLS:
                self.assert_raised(InvalidPair, (2 * h, 2 * k), call, one, other)

    def test_wrong_h(self):
        for h in BELOW_ONE:
            self.assert_raised_itself(InvalidNumber, h, rounds.pairs_row, h)
            for many in (0, 1, -1, -7, GREAT):
                self.assert_raised_itself(InvalidNumber, h, rounds.first_pair, h, many)

    def test_below_0(self):
        for number in (-1, -2, -6, -(10 ** 30)):
            for h in range(1, 6):
                self.assert_raised_itself(InvalidNumber, number, rounds.first_pair, h, number)
                for arch in arches(h)[:3]:
                    self.assert_raised_itself(InvalidNumber, number, rounds.partners, arch, number)
                    self.assert_raised_itself(InvalidNumber, number, rounds.turned_arch, arch, number)

    def test_right_behind_wrong(self):
        still = self.assert_answered_still
        for call in TWO_CALLS:
            still(call, (FLAT, WIDE), (BAD, FLAT), (FLAT, WORSE), (FLAT, TWO))
        still(rounds.pairs_row, (3,), (0,))
        still(rounds.partners, (WIDE, 1), (BAD, 1), (WIDE, -1))
        still(rounds.first_pair, (3, 2), (0, 2), (3, -1))
        still(rounds.turned_arch, (WIDE, 5), (WORSE, 5), (WIDE, -1))


class TestCalls(Case):

    def test_by_position_and_by_name(self):
        one, other = (6, 0, (1, 0, 5, 4, 3, 2)), (6, 0, (5, 4, 3, 2, 1, 0))
        for call in TWO_CALLS:
            self.assert_by_name(call, one=one, other=other)
        self.assert_by_name(rounds.pairs_row, h=3)
        self.assert_by_name(rounds.partners, arch=one, many=2)
        self.assert_by_name(rounds.first_pair, h=3, many=2)
        self.assert_by_name(rounds.turned_arch, arch=one, steps=5)

    def test_new_lists(self):
        self.assert_new_lists(rounds.rounds, WIDE, FLAT)
        self.assert_new_lists(rounds.partners, WIDE, 1)
        self.assert_new_lists(rounds.partners, WIDE, 0)
        for h in range(1, 5):
            self.assert_new_lists(rounds.pairs_row, h)

    def test_what_was_told_may_be_passed_on(self):
        for h in range(1, 6):
            for many in range(1, h + 1):
                one, other = rounds.first_pair(h, many)
                self.assertEqual(rounds.how_many_rounds(one, other), many)
                self.assertIn(other, rounds.partners(one, many))
                self.assertEqual(rounds.turns_to(one, rounds.turned_arch(one, 1)), 0 if h == 1 else 1)


if __name__ == "__main__":
    unittest.main()
