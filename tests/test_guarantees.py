"""[9] over the whole program: each sentence of it, through several files."""

import itertools
import random
import unittest

from math import comb

from hookmats import (
    braids, classes, closings, faces, joins, killers, mats, pairings, parts, polys, readers, rounds, sums, texts, walks,
    words, worths)
from hookmats.books import Book
from hookmats.desk import Desk
from hookmats.live import Live
from tests import oracles
from tests.checks import Case


def squares(n):
    return mats.all_mats(n, n)


def drawn_word(n, many, chance):
    return tuple(chance.randrange(n - 1) for _ in range(many))


def drawn_sum(n, m, chance):
    told = mats.all_mats(n, m)
    kept = sorted(chance.sample(told, chance.randint(1, min(5, len(told)))))
    return tuple((mat, (chance.randint(-9, 9), chance.choice((-2, -1, 1, 3)))) for mat in kept)


class TestMats(Case):

    def test_mats_are_as_many_as_the_halves_tell(self):
        for pegs in range(2, 13, 2):
            half = pegs // 2
            many = comb(2 * half, half) // (half + 1)
            for n in range(pegs + 1):
                told = mats.all_mats(n, pegs - n)
                self.assertEqual((len(told), mats.how_many(n, pegs - n)), (many, many))
                self.assertEqual(told, sorted(set(told)))
            self.assertEqual(len(parts.all_parts(half)), many)

    def test_there_and_back(self):
        for pegs in range(2, 11, 2):
            for n in range(pegs + 1):
                for number, mat in enumerate(mats.all_mats(n, pegs - n)):
                    self.assertEqual((mats.rank(mat), mats.nth(n, pegs - n, number)), (number, mat))
                    self.assertEqual(walks.mat_of(*walks.pair_of(mat)), mat)
                    arch = closings.arch_of(mat)
                    self.assertEqual(closings.unbent(arch, n), mat)
                    self.assertEqual(parts.arch_of_parts(parts.parts_of_arch(arch)), arch)
                    text = texts.show_mat(mat)
                    self.assertEqual(readers.read_mat(text), mat)
                    desk = Desk()
                    desk.order("put a " + text)
                    self.assertEqual((desk.mat_named("a"), desk.order("show a")), (mat, text))
                    self.assertEqual(mats.turned(mats.turned(mat))[:2], (n, pegs - n))
                    if n and pegs > n:
                        upper, lower = mats.upper_half(mat), mats.lower_half(mat)
                        self.assertEqual(joins.joined(upper, mats.upside_down(lower)), (0, mat))
                        self.assertEqual((walks.walk_of(upper), walks.walk_of(lower)), walks.pair_of(mat))

    def test_a_mat_and_it_upside_down_and_it_again(self):
        for pegs in range(2, 13, 2):
            for n in range(1, pegs):
                for mat in mats.all_mats(n, pegs - n)[::1 if pegs < 12 else 5]:
                    flipped = mats.upside_down(mat)
                    rings, whole = joins.joined_all([mat, flipped, mat])
                    self.assertEqual(whole, mat)
                    if n < 7:
                        told = sums.sum_of(mat)
                        told = sums.multiply(sums.multiply(told, sums.flipped(told)), told)
                        self.assertEqual(told, ((mat, (0,) * rings + (1,)),))
                    if n == pegs - n and n < 6:
                        self.assertTrue(joins.is_own_twice(joins.joined(mat, flipped)[1]))
                        if n < 5:
                            self.assertIn(flipped, classes.inverses(mat))

    def test_half_mats_are_as_many_as_walks(self):
        for n in range(1, 9):
            for k in range(n & 1, n + 1, 2):
                told = pairings.half_mats(n, k)
                self.assertEqual(len(told), walks.how_many_walks(n, k))
                self.assertEqual(len(told), pairings.how_many_halves(n, k))
                self.assertEqual(sorted(walks.walk_of(half) for half in told),
                                 [walks.nth_walk(n, k, number) for number in range(len(told))])

    def test_mats_are_as_many_as_pairs_of_walks_with_one_end(self):
        for n in range(8):
            for m in range(8):
                if n + m and (n + m) % 2 == 0 and n + m < 14:
                    pairs = {walks.pair_of(mat) for mat in mats.all_mats(n, m)}
                    self.assertEqual(len(pairs), mats.how_many(n, m))
                    ends = [walks.how_many_walks(n, k) * walks.how_many_walks(m, k) for k in range(8)]
                    self.assertEqual(len(pairs), sum(ends))
                    self.assertTrue(all(sum(one) == sum(other) for one, other in pairs))


class TestWords(Case):

    def test_each_mat_but_the_straight_one_is_the_value_of_words_without_rings(self):
        for n in range(1, 7):
            for mat in squares(n):
                word = words.least_word(mat)
                self.assertEqual(words.value_of(n, word), (0, mat))
                self.assertEqual(len(word), words.least_length(mat))
                self.assertEqual(word == (), mat == mats.straight(n))
                live = Live(n)
                live.put_all(word)
                self.assertEqual((live.rings, live.mat, live.least()), (0, mat, word))

    def test_the_least_have_one_length_and_one_lot_of_hooks(self):
        for n in range(2, 6):
            found = {}
            for length in range(0, 7):
                for word in itertools.product(range(n - 1), repeat=length):
                    mat = oracles.value(n, word)[1]
                    if length == words.least_length(mat):
                        found.setdefault(mat, []).append(word)
            for mat, told in found.items():
                self.assertEqual(len({tuple(sorted(word)) for word in told}), 1)
                self.assertEqual((words.least_word(mat), words.least_words(mat)), (told[0], len(told)))
                self.assertTrue(all(oracles.value(n, word) == (0, mat) for word in told))

    def test_a_book_of_hooks_tells_the_least_words(self):
        for n in range(2, 6):
            book = Book(n, [("abcd"[hook], (hook,)) for hook in range(n - 1)])
            self.assertEqual(book.reached(), [mat for mat in squares(n) if mat != mats.straight(n)])
            for mat in book.reached():
                names = book.shortest(mat)
                self.assertEqual(tuple("abcd".index(name) for name in names), words.least_word(mat))

    def test_moves_lead_exactly_if_the_mats_are_the_same(self):
        chance = random.Random(1)
        for n in range(2, 8):
            for _ in range(60):
                one = drawn_word(n, chance.randint(0, 12), chance)
                other = drawn_word(n, chance.randint(0, 12), chance)
                if chance.random() < 0.5:
                    other = self.after_moves(n, one, chance)
                same = words.value_of(n, one)[1] == words.value_of(n, other)[1]
                self.assertEqual(words.alike(n, one, other), same)
                book = Book(n, [("a", one), ("b", other)])
                self.assertEqual(len(book.alike_names()), 1 if same else 2)
                ends = []
                for word in (one, other):
                    moves = words.moves_between(n, word)
                    end = words.least_word(words.value_of(n, word)[1])
                    self.assertTrue(words.moves_lead(n, word, moves, end))
                    rings = sum(kind == "two" for kind, _ in moves)
                    self.assertEqual(words.value_of(n, word)[0], rings)
                    ends.append(end)
                self.assertEqual(ends[0] == ends[1], same)

    def after_moves(self, n, word, chance):
        """The word behind some moves, also such as make it longer; the rings are told by them."""
        rings = words.value_of(n, word)[0]
        for _ in range(8):
            told = oracles.moved(n, word)
            if told:
                word, more = chance.choice([one for one in told if len(one[0]) < 15])
                rings += more
                self.assertEqual(words.value_of(n, word)[0], rings)
        return word


class TestKillers(Case):

    def test_each_hook_makes_it_0(self):
        for n in range(1, 6):
            told = killers.killer(n)
            self.assertTrue(killers.is_killed(n, told))
            self.assertEqual(dict(told)[mats.straight(n)], ((1,), (1,)))
            for i in range(n - 1):
                for ahead in (True, False):
                    found = {}
                    for mat, part in told:
                        row = [mats.hook(n, i), mat]
                        rings, whole = joins.joined_all(row if ahead else row[::-1])
                        more = polys.fraction_times(part, ((0,) * rings + (1,), (1,)))
                        found[whole] = polys.fraction_plus(found.get(whole, ((), (1,))), more)
                    self.assertEqual(set(found.values()), {((), (1,))})

    def test_it_is_the_one_sum(self):
        for n in range(2, 5):
            told = killers.killer(n)
            for at, (mat, part) in enumerate(told):
                for wrong in (polys.fraction_plus(part, ((1,), (1,))), polys.fraction_times(part, ((0, 1), (1,)))):
                    row = told[:at] + ([(mat, wrong)] if wrong[0] else []) + told[at + 1:]
                    self.assertFalse(killers.is_killed(n, row))
            twice = [(mat, polys.fraction_times(part, ((2,), (1,)))) for mat, part in told]
            self.assertTrue(killers.is_killed(n, twice))

    def test_where_it_is_there(self):
        for n in range(1, 6):
            for prime in (2, 3, 5, 7, 97):
                for number in range(min(prime, 8)):
                    told = killers.killer_at(n, number, prime)
                    none = any(polys.at_prime(killers.binomial(n, r), number, prime) == 0 for r in range(1, n + 1))
                    self.assertEqual(told is None, none)
                    self.assertEqual(n in worths.barred(n, number, prime), none)
                    if told:
                        self.assertEqual(dict(told)[mats.straight(n)], 1)
                        self.assert_remainders(n, told, number, prime)

    def assert_remainders(self, n, told, number, prime):
        """The killer by remainders is the killer with fractions, where no bottom is 0."""
        whole = killers.killer(n)
        bottoms = [polys.at_prime(part[1], number, prime) for _, part in whole]
        if 0 not in bottoms:
            for (mat, part), bottom in zip(whole, bottoms):
                top = polys.at_prime(part[0], number, prime)
                self.assertEqual(dict(told).get(mat, 0) * bottom % prime, top)

    def test_its_trace(self):
        for n in range(1, 6):
            whole = ((), (1,))
            for mat, part in killers.killer(n):
                worth = closings.trace(sums.sum_of(mat))
                whole = polys.fraction_plus(whole, polys.fraction_times(part, (worth, (1,))))
            self.assertEqual(whole, killers.trace_of_killer(n))
            self.assertEqual(whole, (polys.u_row(n + 1)[n], (1,)))
            for prime in (5, 7, 97):
                for number in range(5):
                    told = killers.killer_at(n, number, prime)
                    if told:
                        left = sum(part * number ** closings.closed_rings(mat) for mat, part in told) % prime
                        self.assertEqual(left, polys.at_prime(whole[0], number, prime))


class TestPairings(Case):

    def product_told(self, n, k):
        top, bottom, row = (1,), (1,), polys.u_row(n + 2)
        for j, times in pairings.told_determinant(n, k):
            for _ in range(times):
                top, bottom = polys.times(top, row[k + j]), polys.times(bottom, row[j - 1])
        return polys.fraction(top, bottom)

    def test_the_determinant_is_the_product_told(self):
        for n in range(1, 7):
            for k in range(n & 1, n + 1, 2):
                self.assertEqual(self.product_told(n, k), (pairings.determinant(n, k), (1,)))

    def test_ranks_are_whole_exactly_where_no_determinant_is_0(self):
        for n in range(1, 6):
            for prime in (2, 5, 11):
                for number in range(prime):
                    told = [polys.at_prime(pairings.determinant(n, k), number, prime) for k in range(n & 1, n + 1, 2)]
                    self.assertEqual(worths.is_whole(n, number, prime), 0 not in told)
                    for k, rank in worths.ranks(n, number, prime):
                        nulls = pairings.nulls_at(n, k, number, prime)
                        self.assertEqual(rank + len(nulls), pairings.how_many_halves(n, k))
                        self.assert_nulls(n, k, nulls, number, prime)

    def assert_nulls(self, n, k, nulls, number, prime):
        table = [[polys.at_prime(poly, number, prime) for poly in row] for row in pairings.pairing_table(n, k)]
        for one in nulls:
            self.assertTrue(all(sum(a * b for a, b in zip(row, one)) % prime == 0 for row in table))

    def test_pairings_are_rings_of_halves(self):
        for n in range(1, 7):
            for k in range(n & 1, n + 1, 2):
                halves = pairings.half_mats(n, k)
                for one, other in itertools.product(halves[:6], halves[-6:]):
                    rings, mat = joins.joined(mats.upside_down(one), other) if k else (None, None)
                    if k:
                        wanted = (0,) * rings + (1,) if mat == mats.straight(k) else ()
                        self.assertEqual(pairings.pairing(one, other), wanted)
                    else:
                        many = rounds.how_many_rounds(one, other)
                        self.assertEqual(pairings.pairing(one, other), (0,) * many + (1,))


class TestClosed(Case):

    def test_as_many_rings_either_way(self):
        chance = random.Random(2)
        for n in range(1, 8):
            for _ in range(60):
                one, other = chance.choice(squares(n)), chance.choice(squares(n))
                told = []
                for ahead, behind in ((one, other), (other, one)):
                    rings, mat = joins.joined(ahead, behind)
                    told.append(rings + closings.closed_rings(mat))
                self.assertEqual(told[0], told[1])

    def test_traces_either_way(self):
        chance = random.Random(3)
        for n, m in ((1, 1), (2, 2), (3, 3), (4, 4), (1, 3), (2, 4), (3, 5), (5, 5)):
            for _ in range(15):
                one, other = drawn_sum(n, m, chance), drawn_sum(m, n, chance)
                told = closings.trace(sums.multiply(one, other))
                self.assertEqual(told, closings.trace(sums.multiply(other, one)))
                if n == m:
                    desk = Desk()
                    desk.lay("a", one)
                    desk.lay("b", other)
                    desk.make("c", ("multiply", "a", "b"))
                    desk.make("d", ("multiply", "b", "a"))
                    self.assertEqual((desk.trace_of("c"), desk.trace_of("d")), (told, told))

    def test_the_value_of_the_least_word_closed_either_way(self):
        chance = random.Random(4)
        for n in range(2, 7):
            for _ in range(25):
                one, other = (words.least_word(chance.choice(squares(n))) for _ in range(2))
                told = []
                for word in (one + other, other + one):
                    live = Live(n)
                    live.put_all(word)
                    told.append(live.closed())
                    poly = closings.trace(sums.word_sum(n, word))
                    self.assertEqual(poly, (0,) * live.closed() + (1,))
                self.assertEqual(told[0], told[1])

    def test_rings_of_a_closed_mat_are_rounds(self):
        for n in range(1, 6):
            straight = closings.arch_of(mats.straight(n))
            for mat in squares(n):
                self.assertEqual(closings.closed_rings(mat), rounds.how_many_rounds(closings.arch_of(mat), straight))


class TestRounds(Case):

    def test_from_1_to_h(self):
        for h in range(1, 5):
            for one, other in itertools.product(mats.all_mats(2 * h, 0), repeat=2):
                many = rounds.how_many_rounds(one, other)
                self.assertTrue(1 <= many <= h)
                self.assertEqual(many == h, one == other)
                self.assertEqual(many, len(rounds.rounds(one, other)))
                self.assertEqual(rounds.turned_arch(one, 2 * h - 1), mats.turned(one))
                self.assertEqual(many, rounds.how_many_rounds(mats.turned(one), mats.turned(other)))
                self.assertEqual(
                    many, rounds.how_many_rounds(rounds.turned_arch(one, 1), rounds.turned_arch(other, 1)))

    def test_rounds_are_rings_if_put_behind(self):
        for h in range(1, 5):
            for one, other in itertools.product(mats.all_mats(2 * h, 0), repeat=2):
                square = joins.joined(one, mats.upside_down(other))
                self.assertEqual(square[0], 0)
                self.assertEqual(closings.closed_rings(square[1]), rounds.how_many_rounds(one, other))


class TestParts(Case):

    def test_parts_and_their_turn(self):
        for n in range(1, 7):
            for told in parts.all_parts(n):
                turned = parts.turn(told)
                self.assertEqual(len(told) + len(turned), n + 1)
                less = tuple(sorted(tuple(sorted((number - 1) % n for number in part)) for part in told))
                self.assertEqual(parts.turn(turned), less)
                arch = parts.arch_of_parts(told)
                self.assertEqual(parts.arch_of_parts(turned), mats.turned(arch))
                self.assertEqual(readers.read_parts(texts.show_parts(turned)), turned)

    def test_an_arch_has_one_room_more_than_strings(self):
        for n in range(1, 6):
            for told in parts.all_parts(n):
                arch = parts.arch_of_parts(told)
                colours = faces.colours(arch)
                self.assertEqual(len(colours), n + 1)
                of_both = sorted([sum(colours), n + 1 - sum(colours)])
                self.assertEqual(of_both, sorted([len(told), len(parts.turn(told))]))


class TestRooms(Case):

    def test_one_room_more_than_strings_and_a_tree(self):
        for pegs in range(2, 11, 2):
            for n in range(pegs + 1):
                for mat in mats.all_mats(n, pegs - n):
                    told, doors = faces.rooms(mat), faces.sides(mat)
                    self.assertEqual(len(told), len(mats.strings(mat)) + 1)
                    self.assertEqual([door[:2] for door in doors], mats.strings(mat))
                    reached = {0}
                    for _ in told:
                        reached |= {room for _, _, *both in doors if reached & set(both) for room in both}
                    self.assertEqual(reached, set(range(len(told))))
                    colours = faces.colours(mat)
                    for room in range(len(told)):
                        way = faces.between(mat, 0, room)
                        self.assertEqual(colours[0] ^ colours[room], len(way) % 2)


class TestBraids(Case):

    def test_sums_are_the_same_if_moves_lead(self):
        chance = random.Random(5)
        for n in (2, 3, 4, 5):
            for _ in range(12):
                word = tuple(chance.choice((1, -1)) * chance.randint(1, n - 1) for _ in range(chance.randint(1, 7)))
                other = word
                for _ in range(12):
                    if not other:
                        break
                    moved = braids.moved(n, other, chance.randrange(len(other)))
                    other = other if moved is None else moved
                    self.assertTrue(braids.same_sums(n, word, other))
                self.assertEqual(braids.braid_sum(n, word), braids.braid_sum(n, other))
                self.assertEqual(braids.closed_poly(n, word), braids.closed_poly(n, other))
                self.assertTrue(braids.same_sums(n, word + braids.undone(word), ()))
                self.assertEqual(braids.closed_poly(n, word), braids.closed_poly(n, braids.turned_word(word)))
                if n < 5:
                    for sign in (1, -1):
                        longer = braids.longer(n, word, sign)
                        self.assertEqual(braids.closed_poly(n + 1, longer), braids.closed_poly(n, word))

    def test_a_crossing_is_a_sum_of_two_mats(self):
        for n in (2, 3, 4):
            for i in range(1, n):
                straight, hook = mats.straight(n), mats.hook(n, i - 1)
                self.assertEqual(dict(braids.braid_sum(n, (i,))), {straight: ((1, 1),), hook: ((-1, 1),)})
                self.assertEqual(dict(braids.braid_sum(n, (-i,))), {straight: ((-1, 1),), hook: ((1, 1),)})

    def test_at_a_number_it_is_a_product_of_sums(self):
        """With A a number by a prime, a braid word's sum is the product of its crossings' sums at that worth."""
        prime, chance = 97, random.Random(6)
        for n in (2, 3, 4):
            for _ in range(8):
                a = chance.randint(2, 95)
                back = pow(a, -1, prime)
                worth = -(a * a + back * back) % prime
                word = tuple(chance.choice((1, -1)) * chance.randint(1, n - 1) for _ in range(5))
                whole = {mats.straight(n): 1}
                for number in word:
                    further = {}
                    ahead, behind = (a, back) if number > 0 else (back, a)
                    for mat, many in whole.items():
                        further[mat] = (further.get(mat, 0) + many * ahead) % prime
                        rings, hooked = joins.joined(mat, mats.hook(n, abs(number) - 1))
                        further[hooked] = (further.get(hooked, 0) + many * behind * worth ** rings) % prime
                    whole = further
                told = {mat: sum(many * pow(a, power, prime) for power, many in laurent) % prime
                        for mat, laurent in braids.braid_sum(n, word)}
                self.assertEqual({mat: many for mat, many in whole.items() if many},
                                 {mat: many for mat, many in told.items() if many})


if __name__ == "__main__":
    unittest.main()
