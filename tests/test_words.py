"""words.py, [6] and [9]: values of words, the shortest ones, and the moves between them."""

import itertools
import random
import unittest

from hookmats import words
from hookmats.errors import InvalidHook, InvalidMat, InvalidMoves, InvalidNumber, NotSquare
from hookmats.joins import joined
from tests import oracles
from tests.checks import Case, NO_MATS

NOT_SQUARE = [(3, 1, (1, 0, 3, 2)), (1, 3, (3, 2, 1, 0)), (2, 0, (1, 0)), (0, 2, (1, 0)), (4, 2, (1, 0, 4, 5, 2, 3))]
WRONG_NUMBERS = [0, -1, -2, -(10 ** 30)]
MAT_CALLS = [words.least_length, words.least_word, words.least_words]


def all_words(n, longest):
    return [word for many in range(longest + 1) for word in itertools.product(range(n - 1), repeat=many)]


def some_words(n, many, length, seed):
    """So many words of a length, any hooks; always the same ones."""
    chance = random.Random(seed)
    return [tuple(chance.randrange(n - 1) for _ in range(length)) for _ in range(many)]


def wandered(n, word, moves, longest, seed):
    """A word, and by how many its rings are more, that so many moves, any, make of a word."""
    chance, more = random.Random(seed), 0
    for _ in range(moves):
        fitting = [pair for pair in oracles.moved(n, word) if len(pair[0]) <= longest]
        if fitting:
            word, rings = chance.choice(fitting)
            more += rings
    return word, more


class TestValueOf(Case):

    def test_by_hand(self):
        self.assert_same_kind(words.value_of(3, ()), (0, (3, 3, (3, 4, 5, 0, 1, 2))))
        self.assert_same_kind(words.value_of(3, (0,)), (0, (3, 3, (1, 0, 5, 4, 3, 2))))
        self.assert_same_kind(words.value_of(3, (0, 0)), (1, (3, 3, (1, 0, 5, 4, 3, 2))))
        self.assert_same_kind(words.value_of(3, (0, 1)), (0, (3, 3, (1, 0, 3, 2, 5, 4))))
        self.assert_same_kind(words.value_of(3, (1, 0)), (0, (3, 3, (5, 2, 1, 4, 3, 0))))
        self.assert_same_kind(words.value_of(1, ()), (0, (1, 1, (1, 0))))

    def test_all_short_words(self):
        for n in range(1, 5):
            for word in all_words(n, 5):
                self.assert_same_kind(words.value_of(n, word), oracles.value(n, word))

    def test_the_same_hook_again_and_again(self):
        for n in range(2, 9):
            for i in range(n - 1):
                for many in range(1, 31):
                    self.assertEqual(words.value_of(n, (i,) * many), (many - 1, oracles.hook(n, i)))

    def test_neighbours_in_turn(self):
        for n in range(3, 9):
            for i in range(n - 2):
                for many in range(31):
                    for one, other in ((i, i + 1), (i + 1, i)):
                        word = ((one, other) * 15)[:many]
                        least = word if many < 2 else (one,) if many % 2 else (one, other)
                        self.assertEqual(words.value_of(n, word), (0, oracles.value(n, least)[1]))

    def test_any_hooks(self):
        for n in range(2, 9):
            for length in range(31):
                for word in some_words(n, 4, length, (n * 100 + length)):
                    self.assert_same_kind(words.value_of(n, word), oracles.value(n, word))

    def test_all_hooks_in_a_row_to_and_fro(self):
        for n in range(2, 9):
            row = tuple(range(n - 1))
            for word in (row, row[::-1], row + row[::-1], row[::-1] + row, (row * 30)[:30]):
                self.assert_same_kind(words.value_of(n, word), oracles.value(n, word))

    def test_a_word_parted_in_two(self):
        for n in range(2, 9):
            for word in some_words(n, 2, 30, n):
                rings, mat = words.value_of(n, word)
                for at in range(31):
                    ahead, behind = words.value_of(n, word[:at]), words.value_of(n, word[at:])
                    loose, whole = joined(ahead[1], behind[1])
                    self.assertEqual((rings, mat), (ahead[0] + behind[0] + loose, whole))


class TestAlike(Case):

    def test_all_short_words(self):
        for n in (1, 2, 3, 4):
            told = all_words(n, 4)
            for one in told:
                for other in told:
                    wanted = oracles.value(n, one)[1] == oracles.value(n, other)[1]
                    self.assertIs(words.alike(n, one, other), wanted)

    def test_what_moves_made_one_of_the_other(self):
        longer = shorter = 0
        for n in range(2, 9):
            for seed, word in enumerate(some_words(n, 12, 14, n)):
                other, more = wandered(n, word, 25, 30 if seed % 2 else 14, seed)
                longer += len(other) > len(word)
                shorter += len(other) < len(word)
                self.assertIs(words.alike(n, word, other), True)
                self.assertIs(words.alike(n, other, word), True)
                self.assertEqual(words.value_of(n, other)[0], words.value_of(n, word)[0] + more)
        self.assertGreater(min(longer, shorter), 20)

    def test_each_single_move(self):
        for n in (2, 3, 4, 6):
            for word in some_words(n, 10, 8, n) + [(), (0,)]:
                rings, mat = words.value_of(n, word)
                for other, more in oracles.moved(n, word):
                    self.assertEqual(words.value_of(n, other), (rings + more, mat))
                    self.assertIs(words.alike(n, word, other), True)

    def test_moves_lead_just_between_words_of_one_mat(self):
        for n, longest in ((2, 5), (3, 6), (4, 5)):
            lots = {word: [word] for word in all_words(n, longest)}
            for word in list(lots):
                for other, _ in oracles.moved(n, word):
                    if other in lots and lots[other] is not lots[word]:
                        lots[word].extend(lots[other])
                        for one in lots[other]:
                            lots[one] = lots[word]
            for one in lots:
                for other in list(lots)[::7]:
                    self.assertIs(words.alike(n, one, other), lots[one] is lots[other])

    def test_words_that_differ_by_one_hook(self):
        told = {True: 0, False: 0}
        for n in range(3, 9):
            for seed, word in enumerate(some_words(n, 4, 20, n)):
                other, _ = wandered(n, word, 10, 29, seed)
                for at in range(seed % 2, len(other), 2):
                    for i in range(n - 1):
                        changed = other[:at] + (i,) + other[at + 1:]
                        added = other[:at] + (i,) + other[at:]
                        for one in (changed, added, other[:at] + other[at + 1:]):
                            wanted = oracles.value(n, one)[1] == oracles.value(n, word)[1]
                            self.assertIs(words.alike(n, word, one), wanted)
                            told[wanted] += 1
        self.assertGreater(min(told.values()), 100)


class TestLeast(Case):

    def assert_least(self, mat, wanted):
        self.assert_same_kind(words.least_length(mat), len(wanted[0]))
        self.assert_same_kind(words.least_word(mat), wanted[0])
        self.assert_same_kind(words.least_words(mat), len(wanted))

    def test_by_hand(self):
        self.assert_least(oracles.straight(4), [()])
        self.assert_least(oracles.hook(4, 2), [(2,)])
        self.assert_least(oracles.value(4, (2, 0))[1], [(0, 2), (2, 0)])
        self.assert_least(oracles.value(4, (1, 2, 0))[1], [(1, 0, 2), (1, 2, 0)])
        self.assert_least((4, 4, (3, 2, 1, 0, 7, 6, 5, 4)), [(1, 0, 2, 1), (1, 2, 0, 1)])

    def test_the_straight_mats(self):
        for n in range(1, 9):
            self.assert_least(oracles.straight(n), [()])

    def test_all_words_length_by_length(self):
        for n, longest in ((1, 0), (2, 2), (3, 3), (4, 5), (5, 6)):
            found = {}
            for word in all_words(n, longest):
                found.setdefault(oracles.value(n, word)[1], []).append(word)
            self.assertEqual(sorted(found), list(oracles.all_mats(n, n)))
            for mat, told in found.items():
                self.assert_least(mat, [word for word in told if len(word) == len(told[0])])

    def test_to_the_bound(self):
        for n in range(1, 8):
            searched = oracles.shortest_words(n)
            self.assertEqual(len(searched), [1, 2, 5, 14, 42, 132, 429][n - 1])
            for mat, told in searched.items():
                self.assert_least(mat, told)

    def test_shortest_words_have_no_rings_and_one_lot_of_hooks(self):
        for n in range(1, 8):
            for mat, told in oracles.shortest_words(n).items():
                self.assertEqual(words.value_of(n, words.least_word(mat)), (0, mat))
                self.assertEqual({tuple(sorted(word)) for word in told}, {tuple(sorted(words.least_word(mat)))})


class TestSteps(Case):

    def test_by_hand(self):
        self.assert_same_kind(words.steps(4, (0, 2, 2)), [("far", 0), ("two", 1)])
        self.assert_same_kind(words.steps(4, (2, 0, 1, 0, 0)), [("far", 0), ("neighbours", 1), ("two", 3)])
        self.assert_same_kind(words.steps(3, (1, 0, 1, 0)), [("neighbours", 0), ("neighbours", 1)])
        self.assert_same_kind(words.steps(3, (1, 1, 1)), [("two", 0), ("two", 1)])
        self.assert_same_kind(words.steps(4, (2, 0, 2)), [("far", 0), ("far", 1)])
        self.assert_same_kind(words.steps(3, (0, 1)), [])
        self.assert_same_kind(words.steps(3, (1,)), [])
        self.assert_same_kind(words.steps(1, ()), [])

    def test_all_moves_and_what_they_make(self):
        told = [(n, word) for n in range(1, 6) for word in all_words(n, 5)]
        told += [(n, word) for n in range(2, 9) for length in (6, 16, 30) for word in some_words(n, 10, length, n)]
        for n, word in told:
            wanted = oracles.steps(word)
            self.assert_same_kind(words.steps(n, word), wanted)
            for step in wanted:
                after = words.after_step(n, word, step)
                self.assert_same_kind(after, oracles.after_step(word, step))
                self.assertEqual(oracles.value(n, after)[1], oracles.value(n, word)[1])

    def test_after_no_step(self):
        word = (0, 0, 2, 0, 1, 0)
        right = oracles.steps(word)
        self.assertEqual(right, [("far", 1), ("far", 2), ("neighbours", 3), ("two", 0)])
        for kind in ("two", "neighbours", "far", "", "three", "Two", "far "):
            for at in [*range(-8, 9), 10 ** 30, -(10 ** 30)]:
                step = (kind, at)
                if step in right:
                    self.assertEqual(words.after_step(4, word, step), oracles.after_step(word, step))
                else:
                    self.assert_raised_itself(InvalidMoves, step, words.after_step, 4, word, step)
        for step in (("two", 0), ("two", -1), ("far", 0), ("neighbours", 0)):
            for word in ((), (0,)):
                self.assert_raised_itself(InvalidMoves, step, words.after_step, 4, word, step)


class TestMovesBetween(Case):

    def assert_leads(self, n, word):
        moves = words.moves_between(n, word)
        self.assertIs(moves.__class__, list)
        self.assertLessEqual(len(moves), 300)
        now = word
        for step in moves:
            self.assert_same_kind(step, (str(step[0]), int(step[1])))
            self.assertIn(step, oracles.steps(now))
            now = oracles.after_step(now, step)
        rings, mat = oracles.value(n, word)
        self.assertEqual(now, oracles.shortest_words(n)[mat][0])
        # Of all moves "two" alone takes a ring, and the least word has none.
        self.assertEqual([kind for kind, _ in moves].count("two"), rings)
        self.assertIs(words.moves_lead(n, word, moves, words.least_word(mat)), True)
        return len(moves)

    def test_all_short_words(self):
        for n in range(1, 5):
            for word in all_words(n, 6):
                self.assert_leads(n, word)

    def test_any_words_to_the_bound(self):
        for n in range(2, 8):
            for length in range(17):
                for word in some_words(n, 12, length, n * 100 + length):
                    self.assert_leads(n, word)

    def test_words_with_a_long_way(self):
        row = (0, 1, 2, 3, 4, 5)
        told = [
            (5, 4, 3, 2, 1, 0) * 3, row * 3, (0, 2, 4, 1, 3, 5) * 3, (5, 3, 1, 4, 2, 0) * 3, (4, 5, 2, 3, 0, 1) * 3,
            row + row[::-1] + row, (3, 4, 5, 2, 3, 4, 1, 2, 3, 0, 1, 2, 3, 4, 5, 0), (5, 0) * 8, (4, 4, 2, 2, 0, 0) * 3,
        ]
        for word in told:
            self.assert_leads(7, word[:16])

    def test_shortest_words_are_put_in_order(self):
        for mat, told in oracles.shortest_words(5).items():
            for word in told:
                self.assert_leads(5, word)
        for mat, told in oracles.shortest_words(7).items():
            for word in (told[0], told[-1], told[len(told) // 2]):
                self.assert_leads(7, word)
            self.assertEqual(words.moves_between(7, told[0]), [])


class TestMovesLead(Case):

    def test_by_hand(self):
        lead = words.moves_lead
        self.assertIs(lead(3, (0, 1, 0), [("neighbours", 0)], (0,)), True)
        self.assertIs(lead(3, (0, 1, 0), [("neighbours", 0)], (1,)), False)
        self.assertIs(lead(4, (2, 0, 2), [("far", 0), ("two", 1)], (0, 2)), True)
        self.assertIs(lead(4, (2, 0, 2), [("far", 0), ("far", 0), ("far", 0), ("far", 0)], (2, 0, 2)), True)
        self.assertIs(lead(4, (0, 2), [("far", 0)], (0, 2)), False)

    def test_no_moves(self):
        for word in all_words(3, 4):
            for other in all_words(3, 4):
                self.assertIs(words.moves_lead(3, word, [], other), word == other)

    def wanted(self, word, moves, other):
        for step in moves:
            if step not in oracles.steps(word):
                return False
            word = oracles.after_step(word, step)
        return word == other

    def variants(self, moves, chance):
        """Lists of moves that are like a right one, but for one thing."""
        end = len(moves)
        for at, (kind, place) in enumerate(moves):
            ahead, behind = moves[:at], moves[at + 1:]
            yield ahead + behind
            yield ahead + [moves[at]] * 2 + behind
            if behind:
                yield ahead + [behind[0], moves[at]] + behind[1:]
            for other in (place - 1, place + 1, -1, -place - 1, -2, 30, 10 ** 30, -(10 ** 30)):
                yield ahead + [(kind, other)] + behind
            for other in {"two", "neighbours", "far", "", "one"} - {kind}:
                yield ahead + [(other, place)] + behind
        for one_more in (("two", 0), ("far", 0), ("neighbours", 0), ("two", -1), ("far", 30), ("more", 0)):
            yield moves + [one_more]
            at = chance.randrange(end + 1)
            yield moves[:at] + [one_more] + moves[at:]

    def test_right_ones_and_such_as_differ(self):
        chance, told = random.Random(5), {True: 0, False: 0}
        for n in range(2, 8):
            for word in some_words(n, 3, 16, n) + some_words(n, 3, 9, n):
                moves = words.moves_between(n, word)
                least = words.least_word(words.value_of(n, word)[1])
                self.assertIs(words.moves_lead(n, word, moves, least), True)
                for other in self.variants(moves, chance):
                    wanted = self.wanted(word, other, least)
                    self.assertIs(words.moves_lead(n, word, other, least), wanted)
                    told[wanted] += 1
        self.assertGreater(min(told.values()), 10)

    def test_places_at_and_behind_the_end(self):
        for word, kind, last in (((0, 1, 1), "two", 1), ((1, 0, 2), "far", 1), ((1, 0, 1), "neighbours", 0)):
            for at in range(-4, 5):
                other = oracles.after_step(word, (kind, last))
                self.assertIs(words.moves_lead(4, word, [(kind, at)], other), at == last)

    def test_no_step_makes_a_word_longer(self):
        self.assertIs(words.moves_lead(3, (0,), [("two", 0)], (0, 0)), False)
        self.assertIs(words.moves_lead(3, (0,), [("neighbours", 0)], (0, 1, 0)), False)
        self.assertIs(words.moves_lead(3, (), [("two", 0)], ()), False)

    def test_three_hundred_moves(self):
        there_and_back = [("far", 0)] * 300
        self.assertIs(words.moves_lead(8, (0, 6) * 15, there_and_back, (0, 6) * 15), True)
        self.assertIs(words.moves_lead(8, (0, 6) * 15, there_and_back[1:], (0, 6) * 15), False)


class TestErrors(Case):

    WORD_CALLS = [
        (words.value_of, ()), (words.alike, ((0,),)), (words.steps, ()), (words.after_step, (("two", 0),)),
        (words.moves_between, ()), (words.moves_lead, ([], (0,))),
    ]

    def test_wrong_n(self):
        for n in WRONG_NUMBERS:
            for call, rest in self.WORD_CALLS:
                for word in ((), (0,), (-1,), (5, 7)):
                    self.assert_raised_itself(InvalidNumber, n, call, n, word, *rest)
            self.assert_raised_itself(InvalidNumber, n, words.alike, n, (), ())
            self.assert_raised_itself(InvalidNumber, n, words.moves_lead, n, (), [], ())

    def test_wrong_hooks(self):
        for call, rest in self.WORD_CALLS:
            for n in range(2, 9):
                for wrong in (-1, -n, n - 1, n, n + 7, 10 ** 30, -(10 ** 30)):
                    for word in ((wrong,), (0, wrong), (0, 0, wrong, -5, 99), (wrong, 99, 0), (0,) * 29 + (wrong,)):
                        self.assert_raised_itself(InvalidHook, wrong, call, n, word, *rest)
        self.assert_raised(InvalidHook, 0, words.value_of, 1, (0,))
        self.assert_raised(InvalidHook, 0, words.steps, 1, (0,))

    def test_of_two_words_the_first_one_s(self):
        for call in (words.alike, lambda n, one, other: words.moves_lead(n, one, [("no step", -1)], other)):
            self.assert_raised(InvalidHook, 9, call, 3, (0, 9), (8, 7))
            self.assert_raised(InvalidHook, 8, call, 3, (0, 1), (8, 7))
            self.assert_raised(InvalidHook, -1, call, 3, (0, 0, 1), (1, -1))
            self.assert_raised(InvalidHook, 2, call, 3, (), (2,))

    def test_wrong_hooks_come_ahead_of_wrong_moves(self):
        self.assert_raised(InvalidHook, 2, words.after_step, 3, (0, 0, 2), ("two", 0))
        self.assert_raised(InvalidHook, 2, words.after_step, 3, (0, 0, 2), ("none", 9))
        self.assert_raised(InvalidHook, 2, words.moves_lead, 3, (0, 0, 2), [("none", 9)], (0,))

    def test_wrong_mats(self):
        for call in MAT_CALLS:
            for told in NO_MATS.values():
                self.assert_raised_itself(InvalidMat, told, call, told)
            for mat in NOT_SQUARE:
                self.assert_raised_itself(NotSquare, mat, call, mat)

    def test_no_mat_comes_ahead_of_not_square(self):
        for call in MAT_CALLS:
            told = (3, 1, (2, 3, 0, 1))
            self.assert_raised_itself(InvalidMat, told, call, told)

    def test_right_behind_wrong(self):
        still = self.assert_answered_still
        still(words.value_of, (3, (0, 1)), (0, ()), (3, (0, 2)), (-1, (9,)))
        still(words.alike, (3, (0, 1, 0), (0,)), (0, (), ()), (3, (0, 2), ()), (3, (), (-1,)))
        still(words.steps, (4, (0, 2, 2)), (0, ()), (4, (0, 2, 3)))
        still(words.after_step, (4, (0, 2, 2), ("two", 1)), (4, (0, 2, 2), ("two", 0)), (3, (2,), ("two", 0)))
        still(words.moves_between, (4, (2, 0, 0)), (0, ()), (4, (3,)))
        still(words.moves_lead, (3, (0, 0), [("two", 0)], (0,)), (0, (), [], ()), (3, (0,), [], (2,)))
        for call in MAT_CALLS:
            still(call, (oracles.hook(3, 1),), ((1, 1, (0, 1)),), ((3, 1, (1, 0, 3, 2)),))


class TestCalls(Case):

    def test_by_position_and_by_name(self):
        mat = oracles.value(4, (0, 2))[1]
        self.assert_by_name(words.value_of, n=4, word=(0, 2, 2))
        self.assert_by_name(words.least_length, mat=mat)
        self.assert_by_name(words.least_word, mat=mat)
        self.assert_by_name(words.least_words, mat=mat)
        self.assert_by_name(words.alike, n=4, one=(0, 2), other=(2, 0))
        self.assert_by_name(words.steps, n=4, word=(0, 2, 2))
        self.assert_by_name(words.after_step, n=4, word=(0, 2, 2), step=("far", 0))
        self.assert_by_name(words.moves_between, n=4, word=(2, 2, 0))
        self.assert_by_name(words.moves_lead, n=4, word=(0, 2), moves=[("far", 0)], other=(2, 0))

    def test_new_lists(self):
        self.assert_new_lists(words.steps, 4, (0, 2, 2))
        self.assert_new_lists(words.steps, 4, ())
        self.assert_new_lists(words.moves_between, 4, (2, 2, 0, 1, 0))
        self.assert_new_lists(words.moves_between, 4, ())

    def test_moves_that_are_passed_are_not_kept(self):
        moves = [("far", 0)]
        self.assertIs(words.moves_lead(4, (0, 2), moves, (2, 0)), True)
        moves.append(("far", 0))
        self.assertIs(words.moves_lead(4, (0, 2), moves, (2, 0)), False)
        self.assertEqual(moves, [("far", 0), ("far", 0)])

    def test_what_was_told_may_be_passed_on(self):
        for n in range(2, 8):
            for word in some_words(n, 5, 16, n):
                mat = words.value_of(n, word)[1]
                least = words.least_word(mat)
                self.assertEqual(words.value_of(n, least), (0, mat))
                self.assertEqual(words.least_word(words.value_of(n, least)[1]), least)
                for step in words.steps(n, word):
                    self.assertIs(words.alike(n, words.after_step(n, word, step), least), True)

    def test_thirty_hooks_of_eight_in_good_time(self):
        for word in some_words(8, 20, 30, 8):
            self.assertEqual(self.in_time(words.value_of, 8, word), oracles.value(8, word))
            self.assertIs(self.in_time(words.alike, 8, word, word), True)
            self.assertEqual(self.in_time(words.steps, 8, word), oracles.steps(word))
        wide = (7, 7, (5, 4, 3, 2, 1, 0, 7, 6, 13, 12, 11, 10, 9, 8))
        self.assertEqual(self.in_time(words.least_length, wide), len(oracles.shortest_words(7)[wide][0]))
        self.assertEqual(self.in_time(words.least_words, wide), len(oracles.shortest_words(7)[wide]))


if __name__ == "__main__":
    unittest.main()
