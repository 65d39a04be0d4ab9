"""[2] and [3] over the whole program: what is passed, what is returned, and calls one behind the other."""

import copy
import importlib
import inspect
import random
import unittest

from hookmats import (
    braids, closings, errors, faces, joins, killers, mats, pairings, parts, polys, readers, sums, texts, walks, words,
    worths)
from hookmats.books import Book
from hookmats.desk import Desk
from hookmats.live import Live
from tests import oracles
from tests.checks import Case, lists_within
from tests.test_interface import CLASSES, FUNCTIONS

E, F, THREE = oracles.hook(3, 0), oracles.hook(3, 1), oracles.straight(3)
EF = oracles.joined(E, F)[1]
H, TWO = oracles.hook(2, 0), oracles.straight(2)
THREE_ONE, ONE_THREE = (3, 1, (1, 0, 3, 2)), (1, 3, (3, 2, 1, 0))
WIDE, FLAT = (4, 0, (3, 2, 1, 0)), (4, 0, (1, 0, 3, 2))
SUM, OTHER_SUM = ((E, (1, 2)), (THREE, (0, -3))), ((EF, (4,)), (F, (0, 1)))
PARTS, OTHER_PARTS = ((0, 2), (1,)), ((0, 1), (2,))
KILLER = [(H, ((-1,), (0, 1))), (TWO, ((1,), (1,)))]
HALF, OTHER_HALF = (3, 1, (1, 0, 3, 2)), (3, 1, (3, 2, 1, 0))
HALVES, OTHER_HALVES = ((1,), (0, 1)), ((2, 2), (1, 1))
ENTRIES = [("a", (0,)), ("b", (1,)), ("c", (0, 1, 0))]

# For each function what it is called with, by position: the parameters' names are those of the interface.
CALLS = {
    "mats": {
        "is_mat": [(E,), ((1, 1, (0, 1)),)], "straight": [(3,)], "hook": [(3, 1)], "how_many": [(3, 3), (2, 1)],
        "all_mats": [(3, 3), (1, 3), (2, 1)], "nth": [(3, 3, 2)], "rank": [(EF,)], "upside_down": [(EF,)],
        "left_right": [(EF,)], "turned": [(EF,)], "beside": [(EF, H)], "through": [(EF,)], "upper_half": [(EF,)],
        "lower_half": [(EF,)], "strings": [(EF,)],
    },
    "joins": {
        "joined": [(E, EF)], "joined_all": [([E, EF, F],), ([E],)], "power": [(EF, 3)], "comes_again": [(EF,)],
        "is_own_twice": [(EF,)], "commute": [(E, F)], "fits_between": [(EF, E, F), (E, F, THREE)],
    },
    "words": {
        "value_of": [(3, (0, 0, 1))], "least_length": [(EF,)], "least_word": [(EF,)], "least_words": [(EF,)],
        "alike": [(3, (0, 1, 0), (0,))], "steps": [(4, (0, 2, 2)), (3, ())], "after_step": [(4, (0, 2, 2), ("two", 1))],
        "moves_between": [(4, (2, 0, 0, 1, 0)), (3, ())],
        "moves_lead": [(3, (0, 1, 0), [("neighbours", 0)], (0,)), (3, (0,), [], (1,))],
    },
    "classes": {
        "same_upper": [(E, EF)], "same_lower": [(E, EF)], "same_both": [(E, EF)], "led": [(F, E), (E, THREE)],
        "classes": [(3, 1), (3, 2)], "own_twice": [(3,)], "inverses": [(EF,)],
    },
    "polys": {
        "is_poly": [((1, 0),)], "plus": [((1, 2), (3,))], "times": [((1, 2), (3, 1))], "divided": [((0, 0, 1), (0, 1))],
        "at": [((1, 2), 3)], "at_prime": [((1, 2), 3, 5)], "u_row": [(4,), (0,)], "fraction": [((0, 2), (0, 0, 2))],
        "common": [((-1, 0, 1), (1, 1))], "fraction_plus": [(HALVES, OTHER_HALVES)],
        "fraction_times": [(HALVES, OTHER_HALVES)],
    },
    "sums": {
        "is_sum": [(SUM,)], "sum_of": [(E,)], "add": [(SUM, OTHER_SUM)], "multiply": [(SUM, OTHER_SUM)],
        "scaled": [(SUM, (1, 1))], "part": [(SUM, E)], "flipped": [(OTHER_SUM,)], "word_sum": [(3, (0, 0, 1))],
        "at_worth": [(SUM, 3), ((), 1)],
    },
    "killers": {
        "killer": [(1,), (3,)], "is_killed": [(2, KILLER), (2, [])], "binomial": [(4, 2)],
        "killer_at": [(3, 0, 5), (2, 0, 5)], "trace_of_killer": [(3,)],
    },
    "pairings": {
        "half_mats": [(4, 2)], "how_many_halves": [(4, 2)], "pairing": [(HALF, OTHER_HALF)], "pairing_table": [(3, 1)],
        "determinant": [(4, 2)], "told_determinant": [(4, 0), (3, 3)], "rank_at": [(3, 1, 1, 5)],
        "nulls_at": [(3, 1, 1, 5), (3, 1, 0, 5), (4, 0, 0, 5)],
    },
    "braids": {
        "braid_sum": [(3, (1, -2))], "same_sums": [(3, (1, 2, 1), (2, 1, 2))], "writhe": [((1, -2, 1),)],
        "closed_poly": [(2, (1, 1, 1))], "undone": [((1, -2),)], "moved": [(3, (1, 2, 1), 0), (3, (1, 2), 0)],
        "longer": [(2, (1,), -1)], "turned_word": [((1, -2),)],
    },
    "closings": {
        "closed_rings": [(EF,)], "partly_closed": [(EF, 1)], "trace": [(SUM,)], "rings_row": [(3,)], "bent": [(EF, 2)],
        "arch_of": [(EF,)], "unbent": [(WIDE, 1)], "closed_power": [(EF, 5)],
    },
    "rounds": {
        "rounds": [(WIDE, FLAT), (WIDE, WIDE)], "how_many_rounds": [(WIDE, FLAT)], "pairs_row": [(3,)],
        "partners": [(WIDE, 1), (WIDE, 5)], "first_pair": [(3, 2), (2, 3)], "turned_arch": [(WIDE, 3)],
        "turns_to": [(FLAT, WIDE)],
    },
    "parts": {
        "is_parts": [(PARTS,)], "all_parts": [(3,)], "arch_of_parts": [(PARTS,)], "parts_of_arch": [(FLAT,)],
        "is_finer": [(PARTS, OTHER_PARTS)], "meet": [(PARTS, OTHER_PARTS)], "least_over": [(PARTS, OTHER_PARTS)],
        "turn": [(PARTS,)], "chains": [(4, 3)], "lengths_of": [(PARTS,)], "how_many_of": [((1, 2, 2),)],
    },
    "faces": {
        "rooms": [(EF,)], "room_at": [(EF, True, 2), (EF, False, 2)], "colours": [(EF,)], "sides": [(EF,)],
        "between": [(EF, 0, 3), (EF, 1, 1)], "cut_string": [(EF, 2)],
    },
    "walks": {
        "is_walk": [((1, -1),)], "walk_of": [(HALF,)], "half_of": [((1, 1, -1),)], "how_many_walks": [(6, 2)],
        "nth_walk": [(6, 2, 4)], "rank_walk": [((1, 1, -1),)], "pair_of": [(EF,)], "mat_of": [((1, 1, -1), (1,))],
        "sums_along": [((1, 1, -1),), ((),)], "returns": [((1, -1, 1),)], "returns_row": [(3,), (0,)],
    },
    "worths": {
        "first_zero": [(1, 5)], "barred": [(9, 1, 5), (1, 1, 5)], "ranks": [(4, 1, 5)], "left_size": [(4, 1, 5)],
        "is_whole": [(4, 1, 5)], "closed_rank": [(2, 1, 5)],
    },
    "texts": {
        "show_mat": [(EF,)], "show_word": [((0, 1),)], "show_poly": [((1, 0, -2),)], "show_sum": [(SUM,)],
        "show_parts": [(PARTS,)], "show_walk": [((1, -1),)],
    },
    "readers": {
        "read_mat": [("3|3: 0-1 2-5 3-4",)], "read_word": [("0 1",)], "read_poly": [("1 + -2 w^2",)],
        "read_sum": [("1 w [1|1: 0-1]",)], "read_parts": [("0 2 / 1",)], "read_walk": [("+-",)],
    },
}


def live_told():
    live = Live(3)
    live.put_all((0, 1, 0, 0))
    live.put(1)
    return live


def desk_told():
    desk = Desk()
    for text in ("put a 3|3: 0-1 2-5 3-4", "put b 3|3: 0-1 2-5 3-4", "single s a", "branch two", "switch two"):
        desk.order(text)
    return desk


# For each class, how one is made, and what its questions are called with.
MADE = {
    "Live": (live_told, {"mat": None, "rings": None, "word": None, "closed": [()], "through_now": [()], "least": [()]}),
    "Book": (lambda: Book(3, list(ENTRIES)), {
        "n": None, "entries": None, "word_of": [("c",)], "mat_of": [("c",)], "alike_names": [()], "reached": [()],
        "shortest": [(EF,), (THREE,)]}),
    "Desk": (desk_told, {
        "fork": None, "forks": [()], "names": [()], "mat_named": [("a",)], "sum_named": [("s",)], "same_as": [("a",)],
        "loose": [("a", "b")], "closed": [("a",)], "trace_of": [("s",)], "order": [("show s",), ("names",)]}),
}


def all_functions():
    """Each function with each tuple of what it is called with."""
    for file, functions in CALLS.items():
        module = importlib.import_module("hookmats." + file)
        for name, rows in functions.items():
            for row in rows:
                yield getattr(module, name), row


def all_questions(made):
    """Each question to an object of each class, as a function without parameters."""
    for name, (_, asked) in MADE.items():
        for question, rows in asked.items():
            if rows is None:
                yield lambda one=made[name], question=question: getattr(one, question)
            for row in rows or []:
                yield lambda one=made[name], question=question, row=row: getattr(one, question)(*row)


def all_tells():
    """All of these together, as functions without parameters."""
    tells = [lambda call=call, row=row: call(*copy.deepcopy(row)) for call, row in all_functions()]
    return tells + list(all_questions({name: make() for name, (make, _) in MADE.items()}))


class TestPassed(Case):

    def test_each_function_is_here(self):
        self.assertEqual({file: sorted(told) for file, told in CALLS.items()},
                         {file: sorted(told) for file, told in FUNCTIONS.items()})
        methods = {name: told for classes in CLASSES.values() for name, told in classes.items()}
        self.assertEqual(set(methods), set(MADE))

    def test_by_position_and_by_name(self):
        for file, functions in CALLS.items():
            module = importlib.import_module("hookmats." + file)
            for name, rows in functions.items():
                for row in rows:
                    names = FUNCTIONS[file][name].split()
                    self.assertEqual(len(names), len(row), name)
                    self.assert_by_name(getattr(module, name), **dict(zip(names, copy.deepcopy(row))))

    def test_methods_by_position_and_by_name(self):
        methods = {name: told for classes in CLASSES.values() for name, told in classes.items()}
        for name, (make, asked) in MADE.items():
            one = make()
            for question, rows in asked.items():
                for row in rows or []:
                    names = methods[name][question].split()
                    self.assert_by_name(getattr(one, question), **dict(zip(names, row)))

    def test_what_is_passed_stays_as_it_was(self):
        for call, row in all_functions():
            passed = copy.deepcopy(row)
            kept = [(id(one), copy.copy(one)) for one in lists_within(passed)]
            call(*passed)
            self.assertEqual(passed, row)
            self.assertEqual([(id(one), one) for one in lists_within(passed)], kept)

    def test_what_is_changed_behind_the_call_changes_nothing(self):
        row, told = [E, EF, F], [("neighbours", 0)]
        answers = [lambda: joins.joined_all(row), lambda: words.moves_lead(3, (0, 1, 0), told, (0,))]
        first = [answer() for answer in answers]
        row.append(F), told.append(("two", 0))
        self.assertNotEqual([answer() for answer in answers], first)
        row.pop(), told.pop()
        self.assertEqual([answer() for answer in answers], first)
        passed = list(ENTRIES)
        book = Book(3, passed)
        passed.clear()
        self.assertEqual((book.entries, len(book)), (ENTRIES, 3))
        killer = killers.killer(2)
        self.assertTrue(killers.is_killed(2, killer))
        killer.pop()
        self.assertFalse(killers.is_killed(2, killer))
        self.assertTrue(killers.is_killed(2, killers.killer(2)))


class TestReturned(Case):

    def test_no_list_stands_in_two_places(self):
        tells = all_tells()
        answers = [tell() for _ in range(2) for tell in tells]
        lists = [one for answer in answers for one in lists_within(answer)]
        self.assertGreater(len(lists), 100)
        self.assertEqual(len({id(one) for one in lists}), len(lists))

    def test_to_change_what_was_told_changes_nothing(self):
        tells = all_tells()
        wanted = [copy.deepcopy(tell()) for tell in tells]
        for change in (lambda one: one.clear(), lambda one: one.append("x"), lambda one: one.reverse()):
            for tell in tells:
                for one in lists_within(tell()):
                    change(one)
            for tell, answer in zip(tells, wanted):
                self.assert_same_kind(tell(), answer)

    def test_one_behind_the_other_in_any_order(self):
        tells = all_tells()
        wanted = [copy.deepcopy(tell()) for tell in tells]
        for seed in range(3):
            order = list(range(len(tells))) * 2
            random.Random(seed).shuffle(order)
            for at in order:
                self.assert_same_kind(tells[at](), wanted[at])

    def test_integers_are_neither_true_nor_false(self):
        truths = (
            "is_mat is_own_twice commute alike moves_lead same_upper same_lower same_both is_poly is_sum is_killed "
            "same_sums is_parts is_finer is_walk is_whole").split()
        for call, row in all_functions():
            answer = call(*copy.deepcopy(row))
            if call.__name__ in truths:
                self.assertIsInstance(answer, bool, call.__name__)
            else:
                self.assertNotIn(bool, kinds_within(answer), call.__name__)
            self.assertLessEqual(kinds_within(answer), {bool, int, str, tuple, list, None.__class__})


def kinds_within(answer):
    """The classes of an answer and of all that is in it."""
    found = {answer.__class__}
    if isinstance(answer, (list, tuple)):
        for part in answer:
            found |= kinds_within(part)
    return found


class TestPassedOn(Case):

    def test_integers_of_any_size(self):
        great = polys.at(polys.u_row(40)[39], 10 ** 30 - 1)
        self.assertGreater(great, 10 ** 1000)
        for prime in (2, 7, 97):
            left = great % prime
            self.assertEqual(worths.first_zero(great, prime), worths.first_zero(left, prime))
            self.assertEqual(worths.barred(50, -great, prime), worths.barred(50, -left, prime))
            self.assertEqual(worths.closed_rank(3, great, prime), worths.closed_rank(3, left, prime))
            self.assertEqual(pairings.rank_at(4, 2, great, prime), pairings.rank_at(4, 2, left, prime))
            self.assertEqual(pairings.nulls_at(4, 2, great, prime), pairings.nulls_at(4, 2, left, prime))
            self.assertEqual(killers.killer_at(4, great, prime), killers.killer_at(4, left, prime))
            self.assertEqual(polys.at_prime((great, great), great, prime), (left + left * left) % prime)
        told = sums.scaled(SUM, (great, 1))
        self.assertEqual(sums.part(sums.multiply(told, sums.sum_of(THREE)), E), polys.times((1, 2), (great, 1)))
        self.assertEqual(closings.trace(told), polys.times(closings.trace(SUM), (great, 1)))
        self.assertEqual(sums.at_worth(told, great), [(E, (1 + 2 * great) * 2 * great), (THREE, -6 * great * great)])
        self.assertEqual(polys.common((0, great), (great, great)), (great,))

    def test_great_coefficients_on_a_desk(self):
        desk, great = Desk(), polys.u_row(30)[29]
        for _ in range(2):
            great = polys.times((polys.at(great, 10 ** 9),), (1, -1))
        told = sums.scaled(SUM, great)
        self.assertGreater(max(told[0][1]), 10 ** 200)
        self.assertIsNone(desk.lay("a", told))
        self.assertEqual(desk.sum_named("a"), told)
        self.assertEqual(desk.order("show a"), texts.show_sum(told))
        self.assertEqual(desk.order("trace a"), texts.show_poly(closings.trace(told)))
        text = "lay b " + texts.show_sum(told)
        self.assert_raised_itself(errors.Unreadable, text, desk.order, text)
        self.assertIsNone(desk.lay("b", desk.sum_named("a")))
        self.assertEqual(desk.same_as("a"), ["b"])

    def test_determinants(self):
        for n, k in ((6, 0), (6, 2), (5, 1)):
            poly = pairings.determinant(n, k)
            self.assertEqual(polys.common(poly, poly), poly if poly[-1] > 0 else polys.times((-1,), poly))
            self.assertEqual(polys.fraction(poly, poly), ((1,), (1,)))
            self.assertEqual(polys.divided(polys.times(poly, poly), poly), poly)

    def test_names_words_and_books(self):
        live = live_told()
        book = Book(3, [("x", live.word), ("y", live.least()), ("z", words.least_word(live.mat))])
        self.assertEqual(book.alike_names(), [["x", "y", "z"]])
        again = Book(book.n, book.entries)
        self.assertEqual((again.entries, again.shortest(live.mat)), (book.entries, book.shortest(live.mat)))
        desk = Desk()
        for name, word in again.entries:
            desk.put(name, book.mat_of(name))
        self.assertEqual(desk.same_as("x"), ["y", "z"])
        self.assertEqual(parts.parts_of_arch(closings.arch_of(desk.mat_named("x"))), parts.parts_of_arch(
            closings.arch_of(walks.mat_of(*walks.pair_of(live.mat)))))


def wrong_calls():
    """For each class of errors a call that raises one: the class, the value, and what is called with what."""
    book, desk, live = Book(3, ENTRIES), desk_told(), Live(3)
    return [
        (errors.InvalidMat, (1, 1, (0, 1)), mats.rank, (1, 1, (0, 1))),
        (errors.InvalidPair, (3, 2), joins.joined, E, H),
        (errors.InvalidNumber, 0, mats.straight, 0), (errors.InvalidHook, 2, live.put, 2),
        (errors.InvalidPeg, 6, faces.cut_string, E, 6), (errors.InvalidPoly, (0,), polys.at, (0,), 1),
        (errors.InvalidSum, ((E, ()),), desk.lay, "x", ((E, ()),)),
        (errors.InvalidMoves, ("two", 0), words.after_step, 3, (0, 1), ("two", 0)),
        (errors.InvalidPrime, 4, worths.first_zero, 1, 4), (errors.InvalidBraid, 0, braids.writhe, (1, 0)),
        (errors.NoDivisor, (), polys.divided, (1,), ()),
        (errors.NotSquare, THREE_ONE, closings.closed_rings, THREE_ONE),
        (errors.InvalidWalk, (-1,), walks.returns, (-1,)), (errors.InvalidParts, ((1,),), parts.turn, ((1,),)),
        (errors.InvalidRoom, 4, faces.between, E, 0, 4),
        (errors.InvalidString, (0, 1), faces.cut_string, (1, 1, (1, 0)), 1),
        (errors.InvalidName, "A", desk.put, "A", E), (errors.DoubleName, "two", desk.branch, "two"),
        (errors.UnknownName, "d", book.word_of, "d"), (errors.WrongKind, "s", desk.mat_named, "s"),
        (errors.NothingToUndo, 0, live.undo), (errors.Unreadable, "1 ", readers.read_word, "1 "),
    ]


class TestErrors(Case):

    def test_each_is_raised_of_its_own_class_alone(self):
        told = wrong_calls()
        self.assertEqual(len({error for error, *_ in told}), 22)
        for error, value, call, *args in told:
            for _ in range(2):
                raised = self.assert_raised(error, value, call, *args)
                self.assertEqual(lists_within(raised), [])
            self.assertTrue(issubclass(error, errors.MatError))
            self.assertEqual(list(inspect.signature(error).parameters), ["value"])

    def test_wrong_calls_change_nothing_anywhere(self):
        tells = all_tells()
        wanted = [copy.deepcopy(tell()) for tell in tells]
        for error, value, call, *args in wrong_calls():
            self.assert_raised(error, value, call, *args)
            for tell, answer in zip(tells, wanted):
                self.assert_same_kind(tell(), answer)


if __name__ == "__main__":
    unittest.main()
