"""desk.py: a desk of forks with named mats and sums, against a plain model, by methods and by orders."""

import copy
import inspect
import random
import unittest

from hookmats import closings, joins, mats, sums
from hookmats.desk import Desk
from hookmats.errors import (
    DoubleName, InvalidMat, InvalidName, InvalidPair, InvalidSum, MatError, NothingToUndo, NotSquare, UnknownName,
    Unreadable, WrongKind)
from tests import oracles, texts_oracle
from tests.checks import Case, NO_MATS, NO_NAMES, NO_SUMS, lists_within

E, F, THREE = oracles.hook(3, 0), oracles.hook(3, 1), oracles.straight(3)
H, TWO, ONE = oracles.hook(2, 0), oracles.straight(2), oracles.straight(1)
CAP, CUP = (2, 0, (1, 0)), (0, 2, (1, 0))
THREE_ONE, ONE_THREE = (3, 1, (1, 0, 3, 2)), (1, 3, (3, 2, 1, 0))
SOME_MATS = [E, F, THREE, H, TWO, ONE, THREE_ONE, ONE_THREE, CAP, (2, 4, (1, 0, 3, 2, 5, 4))]
SOME_SUMS = [
    (), ((E, (1,)),), ((E, (0, 1)), (F, (-2,))), ((H, (-1,)), (TWO, (0, 1))), ((TWO, (3,)),), ((ONE, (0, 0, 1)),),
    ((THREE_ONE, (1, 1)),), ((ONE_THREE, (5,)),), ((H, (2,)),)]
NAMES = ["a", "b", "ab", "main", "abcdefgh", "none", "undo", "z"]
DEEDS = {
    "joined": "mm", "upside": "m", "side": "m", "turned": "m", "beside": "mm", "single": "m", "add": "ss",
    "multiply": "ss", "flipped": "s",
}
MAT_DEEDS = [("upside", mats.upside_down), ("side", mats.left_right), ("turned", mats.turned)]
CHANGES = ["put", "lay", "make", "drop", "branch", "switch"]


def made(deed, things):
    verb = deed[0]
    if verb == "joined":
        return "m", joins.joined(*things)[1]
    if verb == "beside":
        return "m", mats.beside(*things)
    if verb in dict(MAT_DEEDS):
        return "m", dict(MAT_DEEDS)[verb](*things)
    functions = {"single": sums.sum_of, "add": sums.add, "multiply": sums.multiply, "flipped": sums.flipped}
    return "s", functions[verb](*things)


class Model:
    """A desk as plainly as can be: all of it is copied ahead of each call that changes it."""

    def __init__(self):
        self.now = {"fork": "main", "forks": {"main": {}}}
        self.past = []

    def things(self):
        return self.now["forks"][self.now["fork"]]

    def raised(self, call, *args):
        """None if the call was made, else the class and the value of its error: then all is as ahead of it."""
        kept = copy.deepcopy(self.now)
        try:
            answer = getattr(self, call)(*args)
        except MatError as error:
            self.now = kept
            return None, (error.__class__, error.value)
        if call in CHANGES:
            self.past.append(kept)
        return answer, None

    def name_is_right(self, name):
        if not 1 <= len(name) <= 8 or any(not "a" <= sign <= "z" for sign in name):
            raise InvalidName(name)

    def known(self, names, kinds=""):
        for name in names:
            if name not in self.things():
                raise UnknownName(name)
        for name, kind in zip(names, kinds):
            if self.things()[name][0] != kind:
                raise WrongKind(name)
        return [self.things()[name][1] for name in names]

    def put(self, name, mat):
        self.name_is_right(name)
        if not oracles.is_mat(mat):
            raise InvalidMat(mat)
        self.things()[name] = ("m", mat)

    def lay(self, name, told):
        self.name_is_right(name)
        if not sums.is_sum(told):
            raise InvalidSum(told)
        self.things()[name] = ("s", told)

    def make(self, name, deed):
        self.name_is_right(name)
        self.things()[name] = made(deed, self.known(deed[1:], DEEDS[deed[0]]))

    def drop(self, name):
        self.known([name])
        del self.things()[name]

    def branch(self, name):
        self.name_is_right(name)
        if name in self.now["forks"]:
            raise DoubleName(name)
        self.now["forks"][name] = copy.deepcopy(self.things())

    def switch(self, name):
        if name not in self.now["forks"]:
            raise UnknownName(name)
        self.now["fork"] = name

    def undo(self):
        if not self.past:
            raise NothingToUndo(0)
        self.now = self.past.pop()

    def mat_named(self, name):
        return self.known([name], "m")[0]

    def sum_named(self, name):
        return self.known([name], "s")[0]

    def same_as(self, name):
        self.known([name])
        return sorted(other for other, thing in self.things().items() if other != name and thing == self.things()[name])

    def loose(self, one, other):
        return joins.joined(*self.known([one, other], "mm"))[0]

    def closed(self, name):
        return closings.closed_rings(self.mat_named(name))

    def trace_of(self, name):
        return closings.trace(self.sum_named(name))

    def names(self):
        return sorted(self.things())

    def forks(self):
        return sorted(self.now["forks"])

    def show(self, name):
        thing, = self.known([name])
        return (texts_oracle.show_mat if self.things()[name][0] == "m" else texts_oracle.show_sum)(thing)


def order_of(call, args):
    """The text of an order, None if there is none."""
    if call == "put":
        return "put %s %s" % (args[0], texts_oracle.show_mat(args[1]))
    if call == "lay":
        return "lay %s %s" % (args[0], texts_oracle.show_sum(args[1]))
    if call == "make":
        return " ".join((args[1][0], args[0]) + args[1][1:])
    verb = {"trace_of": "trace", "same_as": "same"}.get(call, call)
    return None if call in ("mat_named", "sum_named") else " ".join((verb,) + args)


def answer_of(call, answer):
    """The answer of an order, the method's answer being told."""
    if call in CHANGES + ["undo"]:
        return "done"
    if call in ("loose", "closed"):
        return str(answer)
    if call == "trace_of":
        return texts_oracle.show_poly(answer)
    return answer if call == "show" else " ".join(answer) or "none"


class DeskCase(Case):

    def call(self, desk, model, call, *args):
        """A call of a method, of the desk and of the model: the same answer, or the same error."""
        wanted, error = model.raised(call, *args)
        if error:
            self.assert_raised(*error, getattr(desk, call), *args)
        else:
            self.assert_same_kind(getattr(desk, call)(*args), wanted)
        return error is None

    def ask(self, desk, model, call, *args):
        """The same as an order."""
        text = order_of(call, args)
        wanted, error = model.raised(call, *args)
        if error:
            self.assert_raised(*error, desk.order, text)
        else:
            self.assert_same_kind(desk.order(text), answer_of(call, wanted))
        return error is None

    def assert_desk(self, desk, model):
        """All that a desk tells is what the model tells."""
        self.assert_same_kind(desk.fork, model.now["fork"])
        self.assert_same_kind(desk.forks(), model.forks())
        self.assert_same_kind(desk.names(), model.names())
        self.assert_same_kind(len(desk), len(model.past))
        for name in model.names():
            kind, thing = model.things()[name]
            tell, other = (desk.mat_named, desk.sum_named) if kind == "m" else (desk.sum_named, desk.mat_named)
            self.assert_same_kind(tell(name), thing)
            self.assert_raised(WrongKind, name, other, name)
            self.assert_same_kind(desk.same_as(name), model.same_as(name))
            self.assert_same_kind(desk.order("show " + name), model.show(name))

    def assert_all_forks(self, desk, model):
        """What each fork holds, looked at one by one; the looking is taken back."""
        for fork in model.forks():
            self.assertTrue(self.call(desk, model, "switch", fork))
            self.assert_desk(desk, model)
            self.assertTrue(self.call(desk, model, "undo"))


class TestByHand(DeskCase):

    def test_at_first(self):
        desk = Desk()
        self.assert_same_kind([desk.fork, desk.forks(), desk.names(), len(desk)], ["main", ["main"], [], 0])
        self.assert_raised(NothingToUndo, 0, desk.undo)
        self.assert_raised(UnknownName, "a", desk.mat_named, "a")
        self.assert_same_kind([desk.order("forks"), desk.order("names")], ["main", "none"])

    def test_deeds(self):
        desk = Desk()
        self.assertIsNone(desk.put("a", E))
        self.assertIsNone(desk.put("b", F))
        for deed, wanted in (
            (("joined", "a", "b"), oracles.joined(E, F)[1]), (("joined", "a", "a"), E), (("upside", "a"), E),
            (("side", "a"), F), (("beside", "a", "b"), (6, 6, (1, 0, 8, 9, 5, 4, 7, 6, 2, 3, 11, 10))),
        ):
            self.assertIsNone(desk.make("c", deed))
            self.assert_same_kind(desk.mat_named("c"), wanted)
        desk.put("d", TWO)
        self.assertIsNone(desk.make("d", ("turned", "d")))
        self.assert_same_kind(desk.mat_named("d"), H)
        self.assertIsNone(desk.make("s", ("single", "a")))
        self.assert_same_kind(desk.sum_named("s"), ((E, (1,)),))
        self.assertIsNone(desk.make("t", ("add", "s", "s")))
        self.assert_same_kind(desk.sum_named("t"), ((E, (2,)),))
        self.assertIsNone(desk.make("u", ("multiply", "t", "t")))
        self.assert_same_kind(desk.sum_named("u"), ((E, (0, 4)),))
        self.assertIsNone(desk.lay("v", ((THREE_ONE, (0, 1)),)))
        self.assertIsNone(desk.make("v", ("flipped", "v")))
        self.assert_same_kind(desk.sum_named("v"), (((1, 3, (3, 2, 1, 0)), (0, 1)),))
        self.assert_same_kind([desk.loose("a", "a"), desk.loose("a", "b"), desk.closed("a")], [1, 0, 2])
        self.assert_same_kind(desk.trace_of("u"), (0, 0, 0, 4))
        self.assert_same_kind(desk.names(), ["a", "b", "c", "d", "s", "t", "u", "v"])
        self.assertEqual(len(desk), 14)

    def test_forks_do_not_show_in_one_another(self):
        desk = Desk()
        desk.put("a", E)
        self.assertIsNone(desk.branch("b"))
        self.assert_same_kind([desk.fork, desk.forks(), desk.names()], ["main", ["b", "main"], ["a"]])
        desk.put("a", F)
        desk.put("x", ONE)
        self.assertIsNone(desk.switch("b"))
        self.assert_same_kind([desk.fork, desk.names(), desk.mat_named("a")], ["b", ["a"], E])
        self.assertIsNone(desk.drop("a"))
        desk.lay("x", ())
        desk.switch("main")
        self.assert_same_kind([desk.names(), desk.mat_named("a"), desk.mat_named("x")], [["a", "x"], F, ONE])
        desk.switch("b")
        self.assert_same_kind([desk.names(), desk.sum_named("x")], [["x"], ()])
        desk.branch("c")
        desk.switch("c")
        self.assert_same_kind([desk.forks(), desk.names()], [["b", "c", "main"], ["x"]])

    def test_undo_across_forks(self):
        desk = Desk()
        desk.put("a", E)
        desk.branch("b")
        desk.switch("b")
        desk.put("a", F)
        desk.switch("main")
        desk.drop("a")
        desk.branch("c")
        for wanted in (
            ["main", ["b", "main"], []], ["main", ["b", "main"], ["a"]], ["b", ["b", "main"], ["a"]],
            ["b", ["b", "main"], ["a"]], ["main", ["b", "main"], ["a"]], ["main", ["main"], ["a"]],
            ["main", ["main"], []],
        ):
            self.assertIsNone(desk.undo())
            self.assert_same_kind([desk.fork, desk.forks(), desk.names()], wanted)
        self.assert_raised(NothingToUndo, 0, desk.undo)
        self.assertEqual(len(desk), 0)

    def test_undo_gives_the_elder_one_back(self):
        desk = Desk()
        desk.put("a", E)
        desk.lay("a", ((E, (1,)),))
        self.assert_raised(WrongKind, "a", desk.mat_named, "a")
        desk.undo()
        self.assert_same_kind(desk.mat_named("a"), E)
        self.assert_raised(WrongKind, "a", desk.sum_named, "a")
        desk.put("a", F)
        desk.drop("a")
        desk.undo()
        self.assert_same_kind(desk.mat_named("a"), F)
        desk.undo()
        self.assert_same_kind(desk.mat_named("a"), E)

    def test_calls_that_changed_nothing_count(self):
        desk = Desk()
        desk.put("a", E)
        desk.put("a", E)
        desk.switch("main")
        desk.make("a", ("upside", "a"))
        self.assertEqual(len(desk), 4)
        for left in (3, 2, 1):
            desk.undo()
            self.assert_same_kind([len(desk), desk.names()], [left, ["a"]])
        desk.undo()
        self.assert_same_kind([len(desk), desk.names()], [0, []])

    def test_questions_and_undo_do_not_count(self):
        desk = Desk()
        desk.put("a", E)
        desk.lay("s", ())
        for _ in range(3):
            desk.mat_named("a"), desk.sum_named("s"), desk.same_as("a"), desk.loose("a", "a"), desk.closed("a")
            desk.trace_of("s"), desk.names(), desk.forks()
            for text in ("show a", "names", "forks", "same a", "loose a a", "closed a", "trace s"):
                desk.order(text)
            self.assertEqual(len(desk), 2)
        desk.undo()
        self.assert_same_kind([len(desk), desk.names()], [1, ["a"]])
        desk.order("undo")
        self.assertEqual(len(desk), 0)

    def test_same_as(self):
        desk = Desk()
        desk.put("b", E)
        desk.put("a", E)
        desk.put("c", F)
        desk.make("d", ("side", "c"))
        desk.lay("s", ((E, (1,)),))
        desk.make("r", ("single", "a"))
        desk.lay("t", ())
        for name, wanted in (("a", ["b", "d"]), ("b", ["a", "d"]), ("c", []), ("s", ["r"]), ("r", ["s"]), ("t", [])):
            self.assert_same_kind(desk.same_as(name), wanted)
        desk.branch("e")
        desk.drop("d")
        self.assert_same_kind(desk.same_as("a"), ["b"])
        desk.switch("e")
        self.assert_same_kind(desk.same_as("a"), ["b", "d"])

    def test_a_name_and_a_fork_that_are_called_alike(self):
        desk = Desk()
        desk.put("main", E)
        desk.put("b", F)
        desk.branch("b")
        self.assert_same_kind([desk.mat_named("main"), desk.mat_named("b"), desk.forks()], [E, F, ["b", "main"]])
        desk.switch("b")
        desk.drop("b")
        desk.drop("main")
        self.assert_same_kind([desk.fork, desk.names(), desk.forks()], ["b", [], ["b", "main"]])
        self.assert_raised(UnknownName, "b", desk.mat_named, "b")
        desk.put("x", E)
        self.assert_raised(UnknownName, "x", desk.switch, "x")
        desk.switch("main")
        self.assert_raised(UnknownName, "x", desk.mat_named, "x")
        self.assert_same_kind(desk.names(), ["b", "main"])

    def test_a_name_of_the_deed_itself(self):
        desk = Desk()
        desk.put("a", E)
        desk.make("a", ("single", "a"))
        desk.make("a", ("add", "a", "a"))
        desk.make("a", ("multiply", "a", "a"))
        self.assert_same_kind(desk.sum_named("a"), ((E, (0, 4)),))
        for wanted in (((E, (2,)),), ((E, (1,)),)):
            desk.undo()
            self.assert_same_kind(desk.sum_named("a"), wanted)
        desk.undo()
        self.assert_same_kind(desk.mat_named("a"), E)

    def test_desks_know_nothing_of_one_another(self):
        one, other = Desk(), Desk()
        one.put("a", E)
        one.branch("b")
        one.switch("b")
        self.assert_same_kind([other.fork, other.forks(), other.names(), len(other)], ["main", ["main"], [], 0])
        self.assert_raised(NothingToUndo, 0, other.undo)


def drawn_call(chance, model):
    """A call, mostly a right one."""
    known = model.names() or ["a"]

    def pick():
        return chance.choice(known if chance.random() < 0.9 else NAMES)

    name = chance.choice(NAMES)
    call = chance.choice(
        ["put", "lay"] * 3 + ["make"] * 12 + ["drop", "branch", "switch", "switch", "undo", "undo", "undo"] +
        ["mat_named", "sum_named", "same_as", "loose", "closed", "trace_of", "names", "forks", "show"])
    if call == "put":
        return call, name, chance.choice(SOME_MATS)
    if call == "lay":
        return call, name, chance.choice(SOME_SUMS)
    if call == "make":
        verb = chance.choice(list(DEEDS))
        return call, name, (verb,) + tuple(pick() for _ in DEEDS[verb])
    if call == "switch":
        return call, chance.choice(model.forks() + NAMES[:1])
    if call in ("undo", "names", "forks"):
        return (call,)
    if call == "loose":
        return call, pick(), pick()
    return (call, name) if call == "branch" else (call, pick())


def is_within(model, call):
    """True if what comes stays within the bounds, with pegs, and is not too long."""
    if call[0] not in ("make", "loose"):
        return True
    try:
        things = model.known(call[2][1:], DEEDS[call[2][0]]) if call[0] == "make" else model.known(call[1:], "mm")
        if call[0] == "loose" or call[2][0] == "joined":
            return things[0][1] != things[1][0] or 0 < things[0][0] + things[1][1] <= 10
        kind, thing = made(call[2], things)
    except MatError:
        return True
    except (IndexError, ValueError, TypeError):
        return False
    if kind == "m":
        return 0 < thing[0] + thing[1] <= 10
    short = all(sum(mat[:2]) <= 12 and len(poly) < 20 and max(map(abs, poly)) < 10 ** 20 for mat, poly in thing)
    return short and len(texts_oracle.show_sum(thing)) < 400


def no_pegs_left(model, call):
    """True if two sums, multiplied, would leave no pegs."""
    if call[0] != "make" or call[2][0] != "multiply":
        return False
    told = [model.things().get(name, ("", ()))[1] for name in call[2][1:]]
    shapes = [thing[0][0][:2] for thing in told if thing and isinstance(thing[0], tuple) and len(thing[0]) == 2]
    return len(shapes) == 2 and shapes[0][0] == 0 and shapes[1][1] == 0


class TestAgainstTheModel(DeskCase):

    def run_of(self, seed, many, do):
        chance, desk, model, errors = random.Random(seed), Desk(), Model(), set()
        made_calls = 0
        while made_calls < many:
            call = drawn_call(chance, model)
            if no_pegs_left(model, call) or not is_within(model, call):
                continue
            made_calls += 1
            error = copy.deepcopy(model).raised(*call)[1]
            if call[0] == "show" and do == self.call:
                self.ask(desk, model, *call)
            elif order_of(call[0], call[1:]) is None:
                self.call(desk, model, *call)
            else:
                do(desk, model, *call)
            errors |= {error[0]} if error else {call[0]}
            self.assert_desk(desk, model)
            if made_calls % 25 == 0:
                self.assert_all_forks(desk, model)
        while model.past:
            do(desk, model, "undo")
            self.assert_desk(desk, model)
        self.assert_raised(NothingToUndo, 0, desk.undo)
        self.assert_raised(NothingToUndo, 0, desk.order, "undo")
        self.assert_desk(desk, model)
        return errors

    def test_by_methods(self):
        found = set()
        for seed in range(14):
            found |= self.run_of(seed, 120, self.call)
        self.assertTrue({UnknownName, WrongKind, InvalidPair, NotSquare, DoubleName} | set(CHANGES) <= found, found)

    def test_by_orders(self):
        found = set()
        for seed in range(14, 28):
            found |= self.run_of(seed, 120, self.ask)
        self.assertTrue({UnknownName, WrongKind, InvalidPair, NotSquare, DoubleName} | set(CHANGES) <= found, found)

    def test_by_both(self):
        chance = random.Random(99)

        def either(desk, model, *call):
            return (self.ask if call[0] == "show" else chance.choice((self.call, self.ask)))(desk, model, *call)

        for seed in range(28, 36):
            self.run_of(seed, 100, either)

    def some_calls(self, desk, model, many):
        """So many calls that count: mats and sums put and made in ten forks and more."""
        for number in range(many):
            name = NAMES[number % 8]
            if number % 20 == 5:
                self.in_time(self.call, desk, model, "branch", "fork" + "abcdefghijklmno"[number // 20])
            elif number % 10 == 9:
                self.in_time(self.call, desk, model, "switch", model.forks()[number % len(model.forks())])
            elif number % 3 == 0:
                self.in_time(self.ask, desk, model, "make", NAMES[(number + 3) % 8], ("single", name))
            else:
                self.in_time(self.call, desk, model, "put", name, SOME_MATS[number % 10])
        self.assertTrue(many * 3 // 4 <= len(desk) <= many)

    def test_300_calls(self):
        desk, model = Desk(), Model()
        self.some_calls(desk, model, 300)
        self.assert_desk(desk, model)
        self.assertGreater(len(model.forks()), 10)

    def test_150_calls_taken_back(self):
        desk, model = Desk(), Model()
        self.some_calls(desk, model, 150)
        while model.past:
            self.in_time(self.ask if len(model.past) % 2 else self.call, desk, model, "undo")
            if len(model.past) % 10 == 0:
                self.assert_desk(desk, model)
        self.assert_raised(NothingToUndo, 0, desk.undo)

    def test_many_forks(self):
        desk = Desk()
        names = [one + other for one in "abcdefgh" for other in "abcdefgh"]
        for name in names:
            desk.put(name, E)
            self.in_time(desk.branch, name)
        self.assertEqual((len(desk), desk.forks(), desk.names()), (128, sorted(names + ["main"]), names))
        desk.switch("cc")
        self.assertEqual(desk.names(), names[:19])
        for _ in range(129):
            self.in_time(desk.undo)
        self.assertEqual((desk.forks(), desk.names(), len(desk)), (["main"], [], 0))


class TestOrders(DeskCase):

    def setUp(self):
        self.desk = Desk()
        for name, mat in (("a", E), ("b", F), ("c", THREE_ONE)):
            self.desk.put(name, mat)
        for name, told in (("s", ((E, (1,)),)), ("t", ((E, (0, 1)), (F, (-2,)))), ("n", ())):
            self.desk.lay(name, told)
        self.model = Model()
        for name, mat in (("a", E), ("b", F), ("c", THREE_ONE)):
            self.model.raised("put", name, mat)
        for name, told in (("s", ((E, (1,)),)), ("t", ((E, (0, 1)), (F, (-2,)))), ("n", ())):
            self.model.raised("lay", name, told)

    def test_each_order(self):
        for text, wanted in (
            ("put x 2|2: 0-1 2-3", "done"), ("show x", "2|2: 0-1 2-3"), ("lay y 1 w [2|2: 0-1 2-3]", "done"),
            ("show y", "1 w [2|2: 0-1 2-3]"), ("lay y 0", "done"), ("show y", "0"), ("joined x a b", "done"),
            ("show x", "3|3: 0-1 2-3 4-5"), ("upside x x", "done"), ("show x", "3|3: 0-5 1-2 3-4"),
            ("side x a", "done"), ("show x", "3|3: 0-3 1-2 4-5"), ("turned x a", "done"),
            ("show x", "3|3: 0-3 1-2 4-5"), ("turned x x", "done"), ("show x", "3|3: 0-1 2-5 3-4"),
            ("beside x c c", "done"), ("show x", "6|2: 0-1 2-6 3-4 5-7"), ("single y b", "done"),
            ("show y", "1 [3|3: 0-3 1-2 4-5]"), ("add y s t", "done"),
            ("show y", "1 + 1 w [3|3: 0-1 2-5 3-4] ; -2 [3|3: 0-3 1-2 4-5]"), ("multiply y s t", "done"),
            ("show y", "-2 [3|3: 0-1 2-3 4-5] ; 1 w^2 [3|3: 0-1 2-5 3-4]"), ("flipped y y", "done"),
            ("show y", "1 w^2 [3|3: 0-1 2-5 3-4] ; -2 [3|3: 0-5 1-2 3-4]"), ("drop y", "done"),
            ("names", "a b c n s t x"), ("loose a a", "1"),
            ("loose a b", "0"), ("closed a", "2"), ("trace s", "1 w^2"), ("trace n", "0"), ("same a", "none"),
            ("put x 3|3: 0-1 2-5 3-4", "done"), ("put y 3|3: 0-1 2-5 3-4", "done"), ("same a", "x y"),
            ("forks", "main"), ("branch two", "done"), ("forks", "main two"), ("switch two", "done"),
            ("drop a", "done"), ("same x", "y"), ("undo", "done"), ("same x", "a y"), ("undo", "done"),
        ):
            self.assert_same_kind(self.desk.order(text), wanted)
        self.assertEqual(self.desk.fork, "main")

    def test_names_that_are_none(self):
        desk = Desk()
        self.assertEqual(desk.order("names"), "none")
        desk.order("put none 1|1: 0-1")
        self.assertEqual((desk.order("names"), desk.order("same none")), ("none", "none"))
        desk.order("put put 1|1: 0-1")
        self.assertEqual((desk.order("names"), desk.order("same none")), ("none put", "put"))
        desk.order("put undo 1|1: 0-1")
        self.assertEqual(desk.order("show undo"), "1|1: 0-1")

    def test_the_methods_errors(self):
        for call in (
            ("make", "x", ("joined", "a", "q")), ("make", "x", ("joined", "q", "s")),
            ("make", "x", ("joined", "s", "q")), ("make", "x", ("joined", "a", "s")),
            ("make", "x", ("joined", "s", "t")), ("make", "x", ("joined", "c", "c")),
            ("make", "x", ("upside", "s")), ("make", "x", ("side", "n")), ("make", "x", ("turned", "q")),
            ("make", "x", ("beside", "a", "n")), ("make", "x", ("single", "s")), ("make", "x", ("add", "s", "a")),
            ("make", "x", ("multiply", "a", "b")), ("make", "x", ("flipped", "a")), ("drop", "q"), ("branch", "main"),
            ("switch", "q"), ("switch", "a"), ("show", "q"), ("loose", "a", "q"), ("loose", "s", "q"),
            ("loose", "a", "s"), ("loose", "c", "c"), ("closed", "q"), ("closed", "s"), ("closed", "c"),
            ("trace_of", "q"), ("trace_of", "a"), ("same_as", "q"),
        ):
            self.assertIsNotNone(copy.deepcopy(self.model).raised(*call)[1], call)
            self.ask(self.desk, self.model, *call)
            if call[0] != "show":
                self.call(self.desk, self.model, *call)
            self.assert_desk(self.desk, self.model)

    def assert_no_order(self, text):
        self.assert_raised_itself(Unreadable, text, self.desk.order, text)

    def test_no_orders(self):
        for text in (
            "", " ", "a", "undo ", " undo", "undo a", "undo undo", "Undo", "UNDO", "undo\n", "\nundo", "undo\t", "redo",
            "names a", "names ", "forks main", "forks ", "put", "put ", "put x", "put x ", "put  x 1|1: 0-1",
            "put x  1|1: 0-1", " put x 1|1: 0-1", "put x 1|1: 0-1 ", "put x 1|1:  0-1", "put x\t1|1: 0-1",
            "put x 1|1: 0-1\n", "put x 1|1: 0-2", "put x 2|2: 0-3 1-2", "put x 0", "put x a", "put 1|1: 0-1",
            "put x 1 [1|1: 0-1]", "put X 1|1: 0-1", "put xxxxxxxxx 1|1: 0-1", "put x1 1|1: 0-1", "putx 1|1: 0-1",
            "lay", "lay ", "lay x", "lay x ", "lay x  0", "lay x 0 ", "lay  x 0", " lay x 0", "lay x 00", "lay x -0",
            "lay x 1|1: 0-1", "lay x 0 [1|1: 0-1]", "lay x 1 [1|1: 0-2]", "lay 0", "lay X 0", "lay x 0\n", "lay\tx 0",
            "lay x 1 w^1001 [1|1: 0-1]", "lay x " + "9" * 31 + " [1|1: 0-1]", "lay x 1 [1|1: 0-1] ; 1 [1|1: 0-1]",
            "joined", "joined x", "joined x a", "joined x a b c", "joined x  a b", "joined x a  b", "joined x a b ",
            "joined X a b", "joined x A b", "joined x a B", "joined x a b\n", "joined x a\tb", "joined  x a b",
            "upside x", "upside x a b", "upside x A", "upside  x a", "side x", "side x a b", "side X a", "turned x",
            "turned x a b", "turned x a1", "beside x a", "beside x a b c", "beside x a b1", "single x", "single x a b",
            "single x a ", "add x s", "add x s t n", "add x s tttttttttt", "multiply x s", "multiply x s t n",
            "multiply x s t,", "flipped x", "flipped x s t", "flipped x s\t", "drop", "drop a b", "drop A", "drop ",
            "drop a ", "drop  a", "branch", "branch x y", "branch X", "branch abcdefghi", "branch ", "switch",
            "switch main main", "switch Main", "switch ", "show", "show a b", "show A", "show ", "show a ", "loose",
            "loose a", "loose a b c", "loose a B", "loose A b", "loose  a b", "closed", "closed a b", "closed A",
            "trace", "trace s t", "trace S", "trace_of s", "same", "same a b", "same A", "same_as a", "mat_named a",
            "sum_named s", "order undo", "make x joined a b", "make x upside a", "fork", "len", "0", "a b c d e", "\n",
            "\t", "done", "none", "upside_down x a", "left_right x a", "sum_of x a", "closed_rings a",
        ):
            self.assert_no_order(text)
        self.assert_desk(self.desk, self.model)

    def test_no_names_in_orders(self):
        for name in NO_NAMES:
            for text in (
                "put %s 1|1: 0-1", "lay %s 0", "joined %s a b", "joined x %s b", "joined x a %s", "upside %s a",
                "upside x %s", "side x %s", "turned x %s", "beside x a %s", "single %s a", "single x %s", "add x %s t",
                "multiply x s %s", "flipped x %s", "drop %s", "branch %s", "switch %s", "show %s", "loose %s a",
                "loose a %s", "closed %s", "trace %s", "same %s",
            ):
                self.assert_no_order(text % name)
        self.assert_desk(self.desk, self.model)

    def test_unreadable_is_ahead_of_all_else(self):
        for text in ("joined x q Q", "joined q1 q q", "add x a b ", "branch main main", "closed q q", "trace a ",
                     "loose s n ", "put a1 x", "lay q nothing", "drop q ", "switch q\n", "same q q"):
            self.assert_no_order(text)
        empty = Desk()
        for text in ("undo ", "undo a"):
            self.assert_raised_itself(Unreadable, text, empty.order, text)
        self.assert_raised(NothingToUndo, 0, empty.order, "undo")

    def test_signs_put_in_or_left_out(self):
        for text in ("put x 1|1: 0-1", "lay x 1 w [1|1: 0-1]", "joined x a b", "undo", "drop a", "names", "show a"):
            for at in range(len(text) + 1):
                for sign in " \n\t1A-_|":
                    self.try_order(text[:at] + sign + text[at:])
                if at < len(text):
                    self.try_order(text[:at] + text[at + 1:])

    def try_order(self, text):
        """An order that the plain model takes apart by patterns."""
        desk, model = copy.deepcopy(self.desk), copy.deepcopy(self.model)
        words = text.split(" ", 2)
        reads = {"put": texts_oracle.read_mat, "lay": texts_oracle.read_sum}
        if words[0] in reads:
            thing = reads[words[0]](words[2]) if len(words) == 3 else None
            if thing is None or not words[1].islower() or not words[1].isalpha() or len(words[1]) > 8:
                self.assert_raised_itself(Unreadable, text, desk.order, text)
            else:
                self.ask(desk, model, words[0], words[1], thing)
                self.assert_desk(desk, model)
            return
        words = text.split(" ")
        verbs = dict({verb: len(kinds) + 1 for verb, kinds in DEEDS.items()}, undo=0, drop=1, names=0, show=1)
        if verbs.get(words[0]) != len(words) - 1 or not all(
                word.islower() and word.isalpha() and len(word) < 9 for word in words[1:]):
            self.assert_raised_itself(Unreadable, text, desk.order, text)
        elif words[0] in DEEDS:
            self.ask(desk, model, "make", words[1], (words[0],) + tuple(words[2:]))
        else:
            self.ask(desk, model, *words)
        self.assert_desk(desk, model)


class TestErrors(DeskCase):

    def setUp(self):
        self.desk, self.model = Desk(), Model()
        for call in (("put", "a", E), ("put", "b", THREE_ONE), ("lay", "s", SOME_SUMS[2]), ("lay", "t", ()),
                     ("branch", "two"), ("put", "c", F)):
            self.assertTrue(self.call(self.desk, self.model, *call))

    def assert_all_as_ahead(self):
        self.assert_desk(self.desk, self.model)

    def refused(self, error, value, call, *args):
        self.assert_raised(error, value, getattr(self.desk, call), *args)
        self.assertEqual(self.model.raised(call, *args), (None, (error, value)))
        self.assert_all_as_ahead()

    def test_no_names(self):
        for name in NO_NAMES:
            for call, thing in (
                ("put", E), ("put", (1, 1, (0, 1))), ("lay", ()), ("lay", ((E, ()),)), ("make", ("upside", "a")),
                ("make", ("upside", "q")), ("make", ("upside", "s")), ("make", ("joined", "b", "b")),
            ):
                self.refused(InvalidName, name, call, name, thing)
            self.refused(InvalidName, name, "branch", name)
            for call in ("drop", "switch", "mat_named", "sum_named", "same_as", "closed", "trace_of"):
                self.refused(UnknownName, name, call, name)
            self.refused(UnknownName, name, "loose", name, "a")
            self.refused(UnknownName, name, "make", "x", ("joined", "a", name))
        self.assert_raised_itself(InvalidName, NO_NAMES[7], self.desk.put, NO_NAMES[7], E)

    def test_double_forks(self):
        for name in ("main", "two"):
            self.refused(DoubleName, name, "branch", name)
        self.desk.switch("two")
        self.model.raised("switch", "two")
        for name in ("main", "two"):
            self.refused(DoubleName, name, "branch", name)

    def test_no_mats_and_no_sums(self):
        for told in NO_MATS.values():
            self.assert_raised_itself(InvalidMat, told, self.desk.put, "a", told)
            self.assert_raised_itself(InvalidMat, told, self.desk.put, "x", told)
        for told in NO_SUMS.values():
            self.assert_raised_itself(InvalidSum, told, self.desk.lay, "a", told)
            self.assert_raised_itself(InvalidSum, told, self.desk.lay, "x", told)
        self.assert_all_as_ahead()

    def test_unknown_names(self):
        for name in ("q", "two", "main", "zzzzzzzz"):
            for call in ("drop", "mat_named", "sum_named", "same_as", "closed", "trace_of"):
                self.refused(UnknownName, name, call, name)
            for verb, kinds in DEEDS.items():
                if len(kinds) == 1:
                    self.refused(UnknownName, name, "make", "a", (verb, name))
                else:
                    for other in ("a", "s", "b"):
                        self.refused(UnknownName, name, "make", "x", (verb, name, other))
                        self.refused(UnknownName, name, "make", "x", (verb, other, name))
                    self.refused(UnknownName, name, "make", "x", (verb, name, "qq"))
                    self.refused(UnknownName, "qq", "make", "x", (verb, "qq", name))
            for other in ("a", "s", "b"):
                self.refused(UnknownName, name, "loose", name, other)
                self.refused(UnknownName, name, "loose", other, name)
            self.refused(UnknownName, "qq", "loose", "qq", name)
        for name in ("q", "a", "s", "Main", ""):
            self.refused(UnknownName, name, "switch", name)

    def test_wrong_kinds(self):
        for call, name in (
                ("mat_named", "s"), ("mat_named", "t"), ("sum_named", "a"), ("closed", "s"), ("trace_of", "b")):
            self.refused(WrongKind, name, call, name)
        for verb, kinds in DEEDS.items():
            wrong, other, right = ("s", "t", "a") if kinds[0] == "m" else ("a", "b", "s")
            if len(kinds) == 1:
                self.refused(WrongKind, wrong, "make", "x", (verb, wrong))
                self.refused(WrongKind, wrong, "make", wrong, (verb, wrong))
            else:
                self.refused(WrongKind, wrong, "make", "x", (verb, wrong, right))
                self.refused(WrongKind, wrong, "make", "x", (verb, right, wrong))
                self.refused(WrongKind, wrong, "make", "x", (verb, wrong, other))
                self.refused(WrongKind, other, "make", "x", (verb, other, wrong))
        self.refused(WrongKind, "s", "loose", "s", "a")
        self.refused(WrongKind, "s", "loose", "b", "s")
        self.refused(WrongKind, "t", "loose", "t", "s")

    def test_of_the_functions(self):
        self.refused(InvalidPair, (1, 3), "make", "x", ("joined", "b", "a"))
        self.refused(InvalidPair, (1, 3), "make", "x", ("joined", "b", "b"))
        self.refused(InvalidPair, (1, 3), "loose", "b", "a")
        self.refused(NotSquare, THREE_ONE, "closed", "b")
        for call in (("make", "u", ("single", "b")), ("make", "v", ("single", "a"))):
            self.assertTrue(self.call(self.desk, self.model, *call))
        self.refused(InvalidPair, ((3, 1), (3, 3)), "make", "x", ("add", "u", "v"))
        self.refused(InvalidPair, ((3, 3), (3, 1)), "make", "x", ("add", "v", "u"))
        self.refused(InvalidPair, (1, 3), "make", "x", ("multiply", "u", "v"))
        self.refused(NotSquare, THREE_ONE, "trace_of", "u")
        self.assertTrue(self.call(self.desk, self.model, "make", "x", ("add", "t", "u")))
        self.assertTrue(self.call(self.desk, self.model, "make", "x", ("multiply", "u", "t")))
        self.assertTrue(self.call(self.desk, self.model, "trace_of", "t"))

    def test_wrong_calls_are_not_counted(self):
        many = len(self.desk)
        for call, *args in (("put", "A", E), ("put", "a", (1, 1, (0, 1))), ("drop", "q"), ("branch", "two"),
                            ("switch", "q"), ("make", "x", ("upside", "s")), ("order", "branch two"), ("order", "x")):
            with self.assertRaises(MatError):
                getattr(self.desk, call)(*args)
            self.assertEqual(len(self.desk), many)
        self.desk.undo()
        self.model.raised("undo")
        self.assert_desk(self.desk, self.model)

    def test_right_behind_wrong(self):
        desk = self.desk
        still = self.assert_answered_still
        still(desk.mat_named, ("a",), ("s",), ("q",))
        still(desk.sum_named, ("s",), ("a",), ("q",))
        still(desk.same_as, ("a",), ("q",))
        still(desk.loose, ("a", "a"), ("a", "s"), ("b", "a"), ("q", "a"))
        still(desk.closed, ("a",), ("b",), ("s",))
        still(desk.trace_of, ("s",), ("a",), ("q",))
        still(desk.order, ("show a",), ("show q",), ("show",), ("show  a",))
        self.assert_all_as_ahead()


class TestCalls(DeskCase):

    def test_by_name(self):
        desk, model = Desk(), Model()
        for call, named in (
            ("put", {"name": "a", "mat": E}), ("lay", {"name": "s", "told": ((E, (1,)),)}),
            ("make", {"name": "x", "deed": ("joined", "a", "a")}), ("drop", {"name": "x"}), ("branch", {"name": "two"}),
            ("switch", {"name": "two"}),
        ):
            self.assertIsNone(getattr(desk, call)(**named))
            model.raised(call, *named.values())
            self.assertEqual(list(inspect.signature(getattr(desk, call)).parameters), list(named))
        self.assert_desk(desk, model)
        self.assertEqual(desk.order(text="put a 1|1: 0-1"), "done")
        self.assert_by_name(desk.mat_named, name="a")
        self.assert_by_name(desk.sum_named, name="s")
        self.assert_by_name(desk.same_as, name="a")
        self.assert_by_name(desk.loose, one="a", other="a")
        self.assert_by_name(desk.closed, name="a")
        self.assert_by_name(desk.trace_of, name="s")
        self.assert_by_name(desk.order, text="show a")

    def test_lists_are_new_each_time(self):
        desk = Desk()
        desk.put("a", E)
        desk.put("b", E)
        desk.branch("c")
        for tell in (desk.names, desk.forks, lambda: desk.same_as("a")):
            one, other = tell(), tell()
            self.assertEqual(len({id(told) for told in lists_within(one) + lists_within(other)}), 2)
            one.clear()
            self.assertEqual(tell(), other)
            other.append("x")
            self.assertNotIn("x", tell())
        self.assertEqual((desk.names(), desk.forks(), desk.same_as("a")), (["a", "b"], ["c", "main"], ["b"]))

    def test_what_was_told_may_be_passed_on(self):
        desk = Desk()
        desk.put("a", E)
        desk.put("b", desk.mat_named("a"))
        self.assertEqual(desk.same_as(desk.names()[0]), ["b"])
        desk.lay("s", sums.sum_of(desk.mat_named("b")))
        self.assertEqual(desk.order("lay t " + desk.order("show s")), "done")
        self.assertEqual(desk.order("put c " + desk.order("show a")), "done")
        self.assertEqual((desk.same_as("s"), desk.same_as("a")), (["t"], ["b", "c"]))
        desk.branch("d")
        for fork in desk.forks():
            desk.switch(fork)
        self.assertEqual(desk.fork, "main")


if __name__ == "__main__":
    unittest.main()
