"""texts.py: the texts that show things, sign by sign."""

import random
import unittest

from hookmats import mats, parts, sums, texts, words
from tests import oracles, texts_oracle
from tests.checks import Case

E = oracles.hook(3, 0)
CAP, CUP = (2, 0, (1, 0)), (0, 2, (1, 0))
GREAT = 10 ** 3999
SHAPES = [(40, 0), (0, 40), (20, 20), (1, 39), (33, 7), (16, 0), (8, 8), (3, 1)]


class TestMats(Case):

    def test_by_hand(self):
        for mat, wanted in (
            (E, "3|3: 0-1 2-5 3-4"), (CAP, "2|0: 0-1"), (CUP, "0|2: 0-1"), ((1, 1, (1, 0)), "1|1: 0-1"),
            ((2, 2, (2, 3, 0, 1)), "2|2: 0-2 1-3"), ((4, 0, (3, 2, 1, 0)), "4|0: 0-3 1-2"),
            ((1, 3, (3, 2, 1, 0)), "1|3: 0-3 1-2"),
        ):
            self.assert_same_kind(texts.show_mat(mat), wanted)

    def test_all_small_ones(self):
        told = [texts.show_mat(mat) for mat in oracles.mats_to(8)]
        self.assertEqual(told, [texts_oracle.show_mat(mat) for mat in oracles.mats_to(8)])
        self.assertEqual(len(set(told)), len(told))

    def test_great_ones(self):
        chance = random.Random(1)
        for n, m in SHAPES + [(560, 540), (1100, 0), (0, 1100)]:
            for _ in range(3):
                mat = oracles.some_mat(n, m, chance)
                self.assert_same_kind(self.in_time(texts.show_mat, mat), texts_oracle.show_mat(mat))


class TestWords(Case):

    def test_by_hand(self):
        for word, wanted in (((), "-"), ((0,), "0"), ((0, 1), "0 1"), ((10, 0, 7), "10 0 7"), ((0, 0), "0 0")):
            self.assert_same_kind(texts.show_word(word), wanted)

    def test_drawn_ones(self):
        chance = random.Random(2)
        for many in (1, 2, 30, 900):
            word = tuple(chance.randrange(1000) for _ in range(many))
            self.assert_same_kind(self.in_time(texts.show_word, word), texts_oracle.show_word(word))


class TestPolys(Case):

    def test_by_hand(self):
        for poly, wanted in (
            ((), "0"), ((1,), "1"), ((-1,), "-1"), ((0, 1), "1 w"), ((0, -1), "-1 w"), ((0, 0, 1), "1 w^2"),
            ((-1, 0, 1), "-1 + 1 w^2"), ((1, 2, 3), "1 + 2 w + 3 w^2"), ((1, -2, -3), "1 + -2 w + -3 w^2"),
            ((10, 0, 0, -10), "10 + -10 w^3"), ((0, 5, 0, 0, 0, 0, 0, 0, 0, 0, 1), "5 w + 1 w^10"),
            ((0,) * 1000 + (2,), "2 w^1000"), ((0,) * 4321 + (2,), "2 w^4321"),
        ):
            self.assert_same_kind(texts.show_poly(poly), wanted)

    def test_drawn_ones(self):
        chance = random.Random(3)
        for _ in range(200):
            poly = texts_oracle.some_poly(chance, 30, chance.choice((1, 2, 30, 31, 60)))
            self.assert_same_kind(texts.show_poly(poly), texts_oracle.show_poly(poly))

    def test_great_coefficients(self):
        for poly in ((GREAT,), (-GREAT,), (0, 0, GREAT), (7, -GREAT), (10 ** 30, 10 ** 30 - 1, -(10 ** 30))):
            self.assert_same_kind(self.in_time(texts.show_poly, poly), texts_oracle.show_poly(poly))

    def test_all_powers(self):
        poly = tuple(range(1, 400))
        self.assert_same_kind(self.in_time(texts.show_poly, poly), texts_oracle.show_poly(poly))


class TestSums(Case):

    def test_by_hand(self):
        one, two = (2, 2, (1, 0, 3, 2)), (2, 2, (2, 3, 0, 1))
        for told, wanted in (
            ((), "0"), (((one, (0, 1)),), "1 w [2|2: 0-1 2-3]"),
            (((one, (-1,)), (two, (0, 1))), "-1 [2|2: 0-1 2-3] ; 1 w [2|2: 0-2 1-3]"),
            (((one, (2, 0, -1)), (two, (3,))), "2 + -1 w^2 [2|2: 0-1 2-3] ; 3 [2|2: 0-2 1-3]"),
            (((CAP, (5,)),), "5 [2|0: 0-1]"), (((CUP, (0, 0, 5)),), "5 w^2 [0|2: 0-1]"),
        ):
            self.assert_same_kind(texts.show_sum(told), wanted)

    def test_drawn_ones(self):
        chance = random.Random(4)
        for n, m in ((1, 1), (2, 2), (3, 3), (4, 0), (0, 4), (1, 3), (5, 5), (4, 6)):
            for _ in range(12):
                mats_told = oracles.all_mats(n, m)
                kept = sorted(chance.sample(mats_told, chance.randint(0, min(8, len(mats_told)))))
                told = tuple((mat, texts_oracle.some_poly(chance, 6, 31)) for mat in kept)
                self.assert_same_kind(texts.show_sum(told), texts_oracle.show_sum(told))

    def test_great_ones(self):
        told = tuple((mat, (number, -1)) for number, mat in enumerate(oracles.all_mats(6, 6)[:110], 1))
        self.assert_same_kind(self.in_time(texts.show_sum, told), texts_oracle.show_sum(told))
        told = ((E, (0, GREAT)),)
        self.assert_same_kind(self.in_time(texts.show_sum, told), texts_oracle.show_sum(told))
        self.assertEqual(texts.show_sum(sums.word_sum(2, (0, 0))), "1 w [2|2: 0-1 2-3]")


class TestParts(Case):

    def test_by_hand(self):
        for told, wanted in (
            (((0,),), "0"), (((0, 1),), "0 1"), (((0,), (1,)), "0 / 1"), (((0, 2), (1,)), "0 2 / 1"),
            (((0, 3), (1, 2)), "0 3 / 1 2"), ((tuple(range(12)),), "0 1 2 3 4 5 6 7 8 9 10 11"),
        ):
            self.assert_same_kind(texts.show_parts(told), wanted)

    def test_all_small_ones(self):
        for n in range(1, 7):
            told = [texts.show_parts(one) for one in oracles.all_parts(n)]
            self.assertEqual(told, [texts_oracle.show_parts(one) for one in oracles.all_parts(n)])
            self.assertEqual(len(set(told)), len(told))

    def test_great_ones(self):
        alone = tuple((number,) for number in range(700))
        nested = tuple((number, 799 - number) for number in range(400))
        for told in (alone, nested, (tuple(range(1200)),)):
            self.assert_same_kind(self.in_time(texts.show_parts, told), texts_oracle.show_parts(told))


class TestWalks(Case):

    def test_by_hand(self):
        for walk, wanted in (((), "."), ((1,), "+"), ((1, -1), "+-"), ((1, 1, -1, 1), "++-+")):
            self.assert_same_kind(texts.show_walk(walk), wanted)

    def test_all_small_ones(self):
        for n in range(9):
            for walk in oracles.walks(n):
                self.assert_same_kind(texts.show_walk(walk), texts_oracle.show_walk(walk))

    def test_great_ones(self):
        chance = random.Random(5)
        for n in (60, 1000, 5000):
            walk = oracles.some_walk(n, chance)
            self.assert_same_kind(self.in_time(texts.show_walk, walk), texts_oracle.show_walk(walk))


class TestCalls(Case):

    def test_by_position_and_by_name(self):
        self.assert_by_name(texts.show_mat, mat=E)
        self.assert_by_name(texts.show_word, word=(0, 1))
        self.assert_by_name(texts.show_poly, poly=(-1, 0, 1))
        self.assert_by_name(texts.show_sum, told=((E, (1, 1)),))
        self.assert_by_name(texts.show_parts, told=((0, 2), (1,)))
        self.assert_by_name(texts.show_walk, walk=(1, -1))

    def test_what_was_told_is_shown(self):
        self.assertEqual(texts.show_mat(mats.hook(2, 0)), "2|2: 0-1 2-3")
        self.assertEqual(texts.show_word(words.least_word(E)), "0")
        self.assertEqual(texts.show_word(words.least_word(mats.straight(3))), "-")
        self.assertEqual(texts.show_parts(parts.turn(((0, 2), (1,)))), "0 1 / 2")


if __name__ == "__main__":
    unittest.main()
