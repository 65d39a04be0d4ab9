"""The examples of the document, as they stand: one session; and those of README.md."""

import doctest
import pathlib
import unittest

SESSION = """
>>> from hookmats.mats import all_mats, beside, hook, how_many, lower_half, nth, rank, straight, strings, through, turned, upper_half, upside_down
>>> [straight(2), hook(3, 0), how_many(3, 3), how_many(2, 1), all_mats(1, 3), rank(hook(2, 0)), nth(2, 2, 1)]
[(2, 2, (2, 3, 0, 1)), (3, 3, (1, 0, 5, 4, 3, 2)), 5, 0, [(1, 3, (1, 0, 3, 2)), (1, 3, (3, 2, 1, 0))], 0, (2, 2, (2, 3, 0, 1))]
>>> [through(hook(3, 0)), upper_half(hook(3, 0)), turned(straight(2)), strings(hook(2, 0)), beside(straight(1), hook(2, 0))]
[1, (3, 1, (1, 0, 3, 2)), (2, 2, (1, 0, 3, 2)), [(0, 1), (2, 3)], (3, 3, (3, 2, 1, 0, 5, 4))]
>>> from hookmats.joins import comes_again, commute, fits_between, is_own_twice, joined, power
>>> e, f = hook(3, 0), hook(3, 1)
>>> [joined(e, e), joined(e, f), power(e, 4)[0], comes_again(joined(e, f)[1]), is_own_twice(e), commute(e, f), fits_between(joined(f, e)[1], f, e)]
[(1, (3, 3, (1, 0, 5, 4, 3, 2))), (0, (3, 3, (1, 0, 3, 2, 5, 4))), 3, (1, 1), True, False, (3, 3, (1, 0, 3, 2, 5, 4))]
>>> from hookmats.words import after_step, alike, least_length, least_word, least_words, moves_lead, steps, value_of
>>> [value_of(3, (0, 1, 0, 0))[0], least_word(value_of(3, (0, 1, 0, 0))[1]), least_length(joined(e, f)[1]), least_words(value_of(4, (0, 2))[1]), alike(3, (0, 1, 0), (0,))]
[1, (0,), 2, 2, True]
>>> [steps(4, (0, 2, 2)), after_step(4, (0, 2, 2), ('two', 1)), moves_lead(3, (0, 1, 0), [('neighbours', 0)], (0,))]
[[('far', 0), ('two', 1)], (0, 2), True]
>>> from hookmats.classes import classes, inverses, led, own_twice, same_both
>>> [len(classes(4, 2)), len(classes(4, 2)[0]), len(own_twice(3)), same_both(e, f), led(f, e) is not None, led(e, straight(3))]
[3, 3, 5, True, True, None]
>>> from hookmats.polys import at, at_prime, common, divided, fraction, fraction_plus, times, u_row
>>> [u_row(4), times((0, 1), (1, 1)), divided((0, 0, 1), (0, 1)), fraction((0, 2), (0, 0, 2)), fraction_plus(((1,), (0, 1)), ((1,), (0, 1))), at((1, 0, 1), 3), at_prime((1, 0, 1), 3, 7), common((-1, 0, 1), (1, 1))]
[[(1,), (0, 1), (-1, 0, 1), (0, -2, 0, 1)], (0, 1, 1), (0, 1), ((1,), (0, 1)), ((2,), (0, 1)), 10, 3, (1, 1)]
>>> from hookmats.sums import add, at_worth, multiply, part, sum_of, word_sum
>>> [multiply(sum_of(e), sum_of(e)) == word_sum(3, (0, 0)), part(word_sum(3, (0, 0)), e), add(sum_of(e), sum_of(e))[0][1], at_worth(word_sum(3, (0, 0)), 5)]
[True, (0, 1), (2,), [((3, 3, (1, 0, 5, 4, 3, 2)), 5)]]
>>> from hookmats.killers import binomial, is_killed, killer, killer_at, trace_of_killer
>>> [killer(2), is_killed(2, killer(2)), binomial(3, 1), trace_of_killer(2), killer_at(2, 0, 5), killer_at(3, 0, 5) is not None]
[[((2, 2, (1, 0, 3, 2)), ((-1,), (0, 1))), ((2, 2, (2, 3, 0, 1)), ((1,), (1,)))], True, (-1, 0, 1), ((-1, 0, 1), (1,)), None, True]
>>> from hookmats.pairings import determinant, half_mats, nulls_at, pairing_table, rank_at, told_determinant
>>> [half_mats(3, 1), pairing_table(3, 1), determinant(3, 1), told_determinant(3, 1), rank_at(3, 1, 1, 5), nulls_at(3, 1, 1, 5)]
[[(3, 1, (1, 0, 3, 2)), (3, 1, (3, 2, 1, 0))], [[(0, 1), (1,)], [(1,), (0, 1)]], (-1, 0, 1), [(1, 1)], 1, [[1, 4]]]
>>> from hookmats.braids import braid_sum, closed_poly, longer, moved, same_sums, undone, writhe
>>> [braid_sum(2, (1,)), same_sums(2, (1, -1), ()), closed_poly(2, (1,)), closed_poly(2, (1, 1, 1)), writhe((1, -2, 1)), moved(3, (1, 2, 1), 0), same_sums(3, (1, 2, 1), (2, 1, 2))]
[[((2, 2, (1, 0, 3, 2)), ((-1, 1),)), ((2, 2, (2, 3, 0, 1)), ((1, 1),))], True, ((0, 1),), ((-16, -1), (-12, 1), (-4, 1)), 1, (2, 1, 2), True]
>>> from hookmats.closings import arch_of, bent, closed_power, closed_rings, partly_closed, rings_row, trace, unbent
>>> [closed_rings(straight(3)), closed_rings(e), partly_closed(e, 1), rings_row(2), arch_of(straight(2)), unbent(arch_of(e), 3) == e, closed_power(e, 3), trace(sum_of(e))]
[3, 2, (1, (2, 2, (1, 0, 3, 2))), [0, 1, 1], (4, 0, (3, 2, 1, 0)), True, 4, (0, 0, 1)]
>>> from hookmats.rounds import first_pair, how_many_rounds, pairs_row, partners, rounds, turned_arch, turns_to
>>> wide, flat = arch_of(straight(2)), arch_of(hook(2, 0))
>>> [rounds(wide, flat), how_many_rounds(wide, wide), pairs_row(3), turned_arch(wide, 1) == flat, turns_to(flat, wide), partners(wide, 2) == [wide], first_pair(2, 1) == (flat, wide)]
[[(0, 3, 2, 1)], 2, [0, 8, 12, 5], True, 1, True, True]
>>> from hookmats.parts import all_parts, arch_of_parts, chains, how_many_of, is_finer, least_over, lengths_of, meet, parts_of_arch, turn
>>> [len(all_parts(4)), arch_of_parts(((0, 2), (1,))), parts_of_arch(flat), turn(((0, 2), (1,))), meet(((0, 1), (2,)), ((0,), (1, 2))), least_over(((0, 1), (2,)), ((0,), (1, 2)))]
[14, (6, 0, (5, 4, 3, 2, 1, 0)), ((0,), (1,)), ((0, 1), (2,)), ((0,), (1,), (2,)), ((0, 1, 2),)]
>>> [chains(3, 2), how_many_of((1, 2)), lengths_of(((0, 2), (1,))), is_finer(((0,), (1,)), ((0, 1),))]
[12, 3, (1, 2), True]
>>> from hookmats.faces import between, colours, cut_string, room_at, rooms, sides
>>> [rooms(hook(2, 0)), colours(hook(2, 0)), sides(hook(2, 0)), between(hook(2, 0), 1, 2), room_at(hook(2, 0), True, 1), cut_string(hook(2, 0), 0)]
[[((), (1,)), ((0, 2), (0, 2)), ((1,), ())], [1, 0, 1], [(0, 1, 1, 2), (2, 3, 0, 1)], [(0, 1)], 0, (0, 2, (1, 0))]
>>> from hookmats.walks import half_of, how_many_walks, mat_of, nth_walk, pair_of, rank_walk, returns, returns_row, sums_along, walk_of
>>> [walk_of(upper_half(e)), half_of((1, 1, -1)), how_many_walks(4, 2), nth_walk(3, 1, 0), pair_of(e), mat_of((1, -1), (1, -1)), returns((1, -1, 1, -1)), returns_row(3), sums_along((1, 1, -1))]
[(1, -1, 1), (3, 1, (3, 2, 1, 0)), 3, (1, -1, 1), ((1, -1, 1), (1, -1, 1)), (2, 2, (1, 0, 3, 2)), 2, [0, 2, 2, 1], [0, 1, 2, 1]]
>>> from hookmats.worths import barred, closed_rank, first_zero, is_whole, left_size, ranks
>>> [first_zero(0, 5), barred(4, 0, 5), ranks(3, 1, 5), left_size(3, 1, 5), is_whole(3, 0, 5), closed_rank(2, 0, 5)]
[1, [2, 4], [(1, 1), (3, 1)], 2, True, 0]
>>> from hookmats.live import Live
>>> live = Live(3)
>>> [live.put_all((0, 1, 0, 0)), live.rings, live.mat == e, live.least(), live.closed(), live.undo(), live.rings, live.word]
[None, 1, True, (0,), 3, None, 0, (0, 1, 0)]
>>> from hookmats.books import Book
>>> book = Book(3, [('a', (0,)), ('b', (1,)), ('c', (0, 1, 0))])
>>> [len(book), book.alike_names(), len(book.reached()), book.shortest(joined(e, f)[1]), book.shortest(straight(3)), book.word_of('c')]
[3, [['a', 'c'], ['b']], 4, ['a', 'b'], None, (0, 1, 0)]
>>> from hookmats.texts import show_mat, show_parts, show_poly, show_sum, show_walk, show_word
>>> [show_mat(e), show_word((0, 1)), show_poly((-1, 0, 1)), show_sum(word_sum(2, (0, 0))), show_parts(((0, 2), (1,))), show_walk((1, -1))]
['3|3: 0-1 2-5 3-4', '0 1', '-1 + 1 w^2', '1 w [2|2: 0-1 2-3]', '0 2 / 1', '+-']
>>> from hookmats.readers import read_mat, read_poly, read_sum, read_walk
>>> [read_mat('3|3: 0-1 2-5 3-4') == e, read_poly('-1 + 1 w^2'), read_sum('1 w [2|2: 0-1 2-3]') == word_sum(2, (0, 0)), read_walk('.')]
[True, (-1, 0, 1), True, ()]
>>> from hookmats.desk import Desk
>>> desk = Desk()
>>> [desk.order(text) for text in ['put a 2|2: 0-1 2-3', 'single s a', 'multiply q s s', 'show q', 'closed a', 'undo', 'names']]
['done', 'done', 'done', '1 w [2|2: 0-1 2-3]', '1', 'done', 'a s']
"""


README = pathlib.Path(__file__).resolve().parent.parent / "README.md"


class TestExamples(unittest.TestCase):

    def assert_holds(self, text, attempted):
        told = []
        session = doctest.DocTestParser().get_doctest(text, {}, "session", None, 0)
        result = doctest.DocTestRunner(verbose=False).run(session, out=told.append)
        self.assertEqual((result.failed, result.attempted), (0, attempted), "".join(told))

    def test_the_session(self):
        self.assert_holds(SESSION, 48)

    def test_the_readme(self):
        self.assert_holds(README.read_text().replace("```\n", "\n"), 59)


if __name__ == "__main__":
    unittest.main()
