"""books.py: books of named words, against plain searches over lists of names."""

import copy
import inspect
import itertools
import random
import unittest

from hookmats import joins, words
from hookmats.books import Book
from hookmats.errors import DoubleName, InvalidHook, InvalidMat, InvalidName, InvalidNumber, UnknownName
from tests import oracles
from tests.checks import BELOW_ONE, Case, NO_MATS, NO_NAMES, lists_within

E, F, THREE = oracles.hook(3, 0), oracles.hook(3, 1), oracles.straight(3)
BOOK = [("a", (0,)), ("b", (1,)), ("c", (0, 1, 0))]
NAMES = ["a", "b", "ab", "ba", "aa", "z", "abcdefgh", "zzzzzzzz", "m", "q", "book", "aaaaaaab"]
FAR = 10 ** 30


def drawn_book(n, many, chance, longest=6):
    """The entries of a book: names in any order, words of which some are alike."""
    names = chance.sample(NAMES, many)
    return [(name, tuple(chance.randrange(n - 1) for _ in range(chance.randint(0, longest) if n > 1 else 0)))
            for name in names]


def mats_of(n, entries):
    return {name: oracles.value(n, word)[1] for name, word in entries}


def reached(n, entries):
    """All mats, by putting all behind all until none is new."""
    told = set(mats_of(n, entries).values())
    while True:
        more = {oracles.joined_once(one, other)[1] for one in told for other in told}
        if more <= told:
            return sorted(told)
        told |= more


def first_lists(n, entries, longest):
    """For each mat the first list of names, length by length: the first of each length is made of all ahead."""
    told, found = mats_of(n, entries), {}
    level = {}
    for name, mat in told.items():
        level[mat] = min(level.get(mat, [name]), [name])
    for _ in range(longest):
        for mat, names in level.items():
            found.setdefault(mat, names)
        further = {}
        for mat, names in level.items():
            for name, behind in told.items():
                whole, row = oracles.joined_once(mat, behind)[1], names + [name]
                further[whole] = min(further.get(whole, row), row)
        level = further
    return found


class TestBook(Case):

    def test_by_hand(self):
        book = Book(3, BOOK)
        self.assert_same_kind([len(book), book.n, book.entries], [3, 3, BOOK])
        self.assert_same_kind(book.alike_names(), [["a", "c"], ["b"]])
        self.assert_same_kind(book.word_of("c"), (0, 1, 0))
        self.assert_same_kind(book.mat_of("c"), E)
        ef, fe = oracles.joined(E, F)[1], oracles.joined(F, E)[1]
        self.assert_same_kind(book.reached(), sorted([E, F, ef, fe]))
        for mat, wanted in ((E, ["a"]), (F, ["b"]), (ef, ["a", "b"]), (fe, ["b", "a"])):
            self.assert_same_kind(book.shortest(mat), wanted)
        self.assertIsNone(book.shortest(THREE))

    def test_without_entries(self):
        for n in range(1, 9):
            book = Book(n, [])
            self.assert_same_kind([len(book), book.n, book.entries, book.alike_names()], [0, n, [], []])
            self.assert_raised(UnknownName, "a", book.word_of, "a")
            if n < 6:
                self.assert_same_kind(book.reached(), [])
                for mat in oracles.all_mats(n, n):
                    self.assertIsNone(book.shortest(mat))

    def test_what_it_holds(self):
        chance = random.Random(1)
        for n in range(1, 9):
            for many in range(7):
                for _ in range(4):
                    entries = drawn_book(n, many, chance, 30)
                    book = Book(n, list(entries))
                    self.assert_same_kind([len(book), book.n, book.entries], [many, n, entries])
                    for name, word in entries:
                        self.assert_same_kind(book.word_of(name), word)
                        self.assert_same_kind(book.mat_of(name), oracles.value(n, word)[1])

    def test_entries_stay_in_their_order(self):
        for entries in itertools.permutations(BOOK):
            book = Book(3, list(entries))
            self.assertEqual(book.entries, list(entries))
            self.assertEqual(book.alike_names(), [["a", "c"], ["b"]])

    def test_the_straight_mat(self):
        self.assertIsNone(Book(3, BOOK).shortest(THREE))
        self.assertNotIn(THREE, Book(3, BOOK).reached())
        book = Book(3, BOOK + [("d", ())])
        self.assert_same_kind(book.shortest(THREE), ["d"])
        self.assertIn(THREE, book.reached())
        self.assert_same_kind(Book(1, [("b", ()), ("a", ())]).shortest((1, 1, (1, 0))), ["a"])
        self.assertIsNone(Book(1, []).shortest((1, 1, (1, 0))))


class TestAlike(Case):

    def test_against_all_pairs(self):
        chance = random.Random(2)
        for n in range(1, 9):
            for many in range(7):
                for _ in range(6):
                    entries = drawn_book(n, many, chance, 4)
                    told = mats_of(n, entries)
                    wanted = sorted({tuple(sorted(o for o in told if told[o] == told[name])) for name in told})
                    answer = Book(n, entries).alike_names()
                    self.assert_same_kind(answer, [list(names) for names in wanted])
                    for name, other in itertools.combinations(told, 2):
                        together = any(name in names and other in names for names in answer)
                        self.assertEqual(words.alike(n, dict(entries)[name], dict(entries)[other]), together)

    def test_lists_are_ascending(self):
        entries = [("d", (0,)), ("b", (1,)), ("c", (0, 0)), ("a", (1, 1)), ("ab", (0, 1, 0)), ("aa", (2,))]
        self.assert_same_kind(Book(4, entries).alike_names(), [["a", "b"], ["aa"], ["ab", "c", "d"]])


class TestReached(Case):

    def test_against_a_search(self):
        chance = random.Random(3)
        for n in range(1, 6):
            for many in range(7):
                for _ in range(4):
                    entries = drawn_book(n, many, chance)
                    self.assert_same_kind(self.in_time(Book(n, entries).reached), reached(n, entries))

    def test_hooks_reach_all_but_the_straight_mat(self):
        for n in range(2, 6):
            entries = [(NAMES[hook], (hook,)) for hook in range(n - 1)]
            wanted = [mat for mat in oracles.all_mats(n, n) if mat != oracles.straight(n)]
            self.assert_same_kind(Book(n, entries).reached(), wanted)
            book = Book(n, entries + [("one", ())])
            self.assert_same_kind(book.reached(), list(oracles.all_mats(n, n)))


class TestShortest(Case):

    def assert_shortest(self, n, entries, wanted):
        book = Book(n, entries)
        for mat in oracles.all_mats(n, n):
            self.assert_same_kind(self.in_time(book.shortest, mat), wanted.get(mat))

    def test_against_all_lists(self):
        chance = random.Random(4)
        for n in range(1, 5):
            for many in range(1, 4):
                for _ in range(6):
                    entries = drawn_book(n, many, chance, 3)
                    told, wanted = mats_of(n, entries), {}
                    for length in range(1, 8):
                        for names in itertools.product(sorted(told), repeat=length):
                            mat = told[names[0]]
                            for name in names[1:]:
                                mat = oracles.joined_once(mat, told[name])[1]
                            wanted.setdefault(mat, list(names))
                    if sorted(wanted) == reached(n, entries):
                        self.assert_shortest(n, entries, wanted)

    def test_length_by_length(self):
        chance = random.Random(5)
        for n in range(1, 6):
            for many in range(1, 7):
                for _ in range(6):
                    entries = drawn_book(n, many, chance)
                    wanted = first_lists(n, entries, 43)
                    self.assertEqual(sorted(wanted), reached(n, entries))
                    self.assert_shortest(n, entries, wanted)

    def test_hooks_named_in_any_order(self):
        for n in range(2, 6):
            for names in itertools.permutations("abcd"[:n - 1]):
                entries = [(name, (hook,)) for hook, name in enumerate(names)]
                book = Book(n, entries)
                for mat in oracles.all_mats(n, n):
                    told = oracles.shortest_words(n)[mat]
                    lists = sorted([names[hook] for hook in word] for word in told if word)
                    self.assert_same_kind(book.shortest(mat), lists[0] if lists else None)
                    self.assertEqual(words.least_words(mat), len(lists) or 1)

    def test_the_words_of_the_list_have_the_mat(self):
        chance = random.Random(6)
        for n in range(2, 6):
            entries = drawn_book(n, 6, chance)
            book = Book(n, entries)
            for mat in book.reached():
                names = book.shortest(mat)
                whole = tuple(hook for name in names for hook in book.word_of(name))
                self.assertEqual(oracles.value(n, whole)[1], mat)
                self.assertEqual(joins.joined_all([book.mat_of(name) for name in names])[1], mat)

    def test_names_compare_as_texts(self):
        entries = [("b", (0,)), ("ab", (0,)), ("z", (1,)), ("aaaaaaaa", (1,)), ("y", (2,)), ("ya", (2,))]
        book = Book(4, entries)
        self.assert_same_kind(book.shortest(oracles.value(4, (0, 1, 2))[1]), ["ab", "aaaaaaaa", "y"])
        self.assert_same_kind(book.shortest(oracles.value(4, (0, 2))[1]), ["ab", "y"])
        self.assert_same_kind(book.shortest(oracles.hook(4, 1)), ["aaaaaaaa"])

    def test_fewer_names_come_first(self):
        book = Book(3, [("a", (0,)), ("b", (1,)), ("z", (0, 1))])
        self.assert_same_kind(book.shortest(oracles.value(3, (0, 1))[1]), ["z"])

    def test_five_with_six_names(self):
        chance = random.Random(7)
        for entries in ([(NAMES[at], (at,)) for at in range(4)] + [("q", ()), ("z", (3, 2, 1, 0))],
                        drawn_book(5, 6, chance, 30), drawn_book(5, 6, chance, 2)):
            book = self.in_time(Book, 5, entries)
            self.assert_same_kind(self.in_time(book.reached), reached(5, entries))
            self.assert_shortest(5, entries, first_lists(5, entries, 43))


class TestItNeverChanges(Case):

    def told(self, book, mats):
        return (book.n, book.entries, len(book), book.alike_names(), book.reached(),
                [book.shortest(mat) for mat in mats], [(book.word_of(name), book.mat_of(name)) for name, _ in BOOK])

    def test_whatever_becomes_of_the_list_that_was_passed(self):
        passed = list(BOOK)
        book = Book(3, passed)
        mats = oracles.all_mats(3, 3)
        wanted = copy.deepcopy(self.told(book, mats))
        self.assertEqual(passed, BOOK)
        for change in (lambda: passed.append(("d", (1, 0))), lambda: passed.reverse(), lambda: passed.pop(),
                       lambda: passed.__setitem__(0, ("x", ())), lambda: passed.clear()):
            change()
            self.assertEqual(self.told(book, mats), wanted)
            self.assert_raised(UnknownName, "d", book.word_of, "d")

    def test_whatever_becomes_of_lists_that_were_told(self):
        book = Book(3, BOOK)
        mats = oracles.all_mats(3, 3)
        wanted = copy.deepcopy(self.told(book, mats))
        for _ in range(2):
            lists = lists_within(self.told(book, mats))
            self.assertEqual(len(lists), len({id(one) for one in lists}))
            for one in lists:
                one.append("x")
            self.assertEqual(self.told(book, mats), wanted)
            for one in lists:
                one.clear()
            self.assertEqual(self.told(book, mats), wanted)

    def test_lists_are_new_each_time(self):
        book = Book(3, BOOK)
        for tell in (lambda: book.entries, book.alike_names, book.reached, lambda: book.shortest(E)):
            one, other = tell(), tell()
            lists = lists_within(one) + lists_within(other)
            self.assertEqual(len(lists), len({id(told) for told in lists}))
            self.assertEqual(one, other)

    def test_two_books_of_one_list(self):
        passed = list(BOOK)
        one, other = Book(3, passed), Book(3, passed)
        one.entries.clear()
        self.assertEqual(other.entries, BOOK)
        lists = [one.entries, other.entries, passed]
        self.assertEqual(len({id(told) for told in lists}), 3)

    def test_wrong_calls_change_nothing(self):
        book = Book(3, BOOK)
        mats = oracles.all_mats(3, 3)
        wanted = self.told(book, mats)
        self.assert_raised(UnknownName, "x", book.word_of, "x")
        self.assert_raised(InvalidMat, (2, 2, (1, 0, 3, 2)), book.shortest, (2, 2, (1, 0, 3, 2)))
        self.assertEqual(self.told(book, mats), wanted)


class TestErrors(Case):

    def test_wrong_n(self):
        for n in BELOW_ONE:
            for entries in ([], BOOK, [("A", (0,))], [("a", (0,)), ("a", (9,))], [("a", (-1,))]):
                self.assert_raised_itself(InvalidNumber, n, Book, n, entries)

    def test_no_names(self):
        for name in NO_NAMES:
            for entries in ([(name, ())], [("a", (0,)), (name, (1,))], [(name, (7,))], [("a", (5,)), (name, ())],
                            [("a", ()), ("a", ()), (name, ())], [(name, ()), ("a", ()), ("a", ())],
                            [(name, ()), (name, ())], [(name, ()), ("9", ())]):
                self.assert_raised_itself(InvalidName, name, Book, 3, entries)
        self.assert_raised(InvalidName, "B", Book, 3, [("a", ()), ("B", ()), ("C", ())])

    def test_names_of_one_to_eight_letters(self):
        for name in ["a", "z", "abcdefgh", "zzzzzzzz", "main", "none", "put"] + list("abcdefghijklmnopqrstuvwxyz"):
            self.assertEqual(Book(2, [(name, (0,))]).word_of(name), (0,))

    def test_double_names(self):
        for entries, name in (
            ([("a", ()), ("a", (0,))], "a"), ([("a", ()), ("b", ()), ("b", ()), ("a", ())], "b"),
            ([("a", ()), ("b", ()), ("a", ()), ("b", ())], "a"), ([("c", (9,)), ("c", ())], "c"),
            ([("x", (-1,)), ("ab", ()), ("b", ()), ("ab", (9,))], "ab"),
        ):
            self.assert_raised(DoubleName, name, Book, 3, entries)

    def test_wrong_hooks(self):
        for n in range(1, 9):
            for hook in (-1, n - 1, n, FAR, -FAR):
                right = (0,) if n > 1 else ()
                for entries in ([("b", (hook,))], [("b", right), ("a", right + (hook,))],
                                [("b", right + (hook, -7)), ("a", (99,))], [("z", (hook, FAR + 1)), ("a", (-9,))]):
                    self.assert_raised_itself(InvalidHook, hook, Book, n, entries)

    def test_unknown_names(self):
        book = Book(3, BOOK)
        for name in ["d", "aa", "ab"] + NO_NAMES:
            self.assert_raised_itself(UnknownName, name, book.word_of, name)
            self.assert_raised_itself(UnknownName, name, book.mat_of, name)

    def test_no_mats(self):
        for n in range(1, 5):
            book = Book(n, [("a", ())])
            for told in NO_MATS.values():
                self.assert_raised_itself(InvalidMat, told, book.shortest, told)
            for mat in oracles.mats_to(8):
                if mat[:2] != (n, n):
                    self.assert_raised_itself(InvalidMat, mat, book.shortest, mat)

    def test_right_behind_wrong(self):
        book = Book(3, BOOK)
        self.assert_answered_still(book.word_of, ("a",), ("x",), ("",))
        self.assert_answered_still(book.mat_of, ("a",), ("x",))
        self.assert_answered_still(book.shortest, (E,), ((2, 0, (1, 0)),), ((1, 1, (0, 1)),))
        for n, entries in ((0, BOOK), (3, [("A", ())]), (3, BOOK + BOOK), (3, [("a", (2,))])):
            with self.assertRaises(ValueError):
                Book(n, entries)
            self.assertEqual(Book(3, BOOK).reached(), book.reached())


class TestCalls(Case):

    def test_by_name(self):
        book = Book(n=3, entries=list(BOOK))
        self.assertEqual(Book(entries=list(BOOK), n=3).entries, book.entries)
        self.assert_by_name(book.word_of, name="c")
        self.assert_by_name(book.mat_of, name="c")
        self.assert_by_name(book.shortest, mat=oracles.joined(E, F)[1])
        self.assertEqual(list(inspect.signature(Book).parameters), ["n", "entries"])

    def test_what_was_told_may_be_passed_on(self):
        book = Book(4, [(name, word) for name, word in Book(3, BOOK).entries])
        again = Book(book.n, book.entries)
        self.assertEqual(again.entries, book.entries)
        for mat in book.reached():
            self.assertEqual(again.shortest(mat), book.shortest(mat))


if __name__ == "__main__":
    unittest.main()
