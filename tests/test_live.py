"""live.py, [6]: a mat that hooks are put behind, and taken back, against a plain list of hooks."""

import inspect
import random
import unittest

from hookmats import words
from hookmats.errors import InvalidHook, InvalidNumber, NothingToUndo
from hookmats.live import Live
from tests import oracles
from tests.checks import BELOW_ONE, Case

E = oracles.hook(3, 0)
FAR = 10 ** 30
NO_HOOKS = {n: [-1, -2, n - 1, n, n + 1, FAR, -FAR] for n in range(1, 9)}


def put_on(n, word):
    live = Live(n)
    live.put_all(word)
    return live


class LiveCase(Case):

    def assert_live(self, live, n, hooks):
        """All that a live mat tells is what the plain list of its hooks tells."""
        rings, mat = oracles.value(n, hooks)
        self.assert_same_kind(live.mat, mat)
        self.assert_same_kind(live.rings, rings)
        self.assert_same_kind(live.word, tuple(hooks))
        self.assert_same_kind(len(live), len(hooks))
        self.assert_same_kind(live.closed(), rings + oracles.closed_rings(mat))
        self.assert_same_kind(live.through_now(), oracles.through(mat))


class TestLive(LiveCase):

    def test_by_hand(self):
        live = Live(3)
        self.assert_live(live, 3, [])
        self.assertEqual((live.closed(), live.through_now(), live.least()), (3, 3, ()))
        self.assertIsNone(live.put_all((0, 1, 0, 0)))
        self.assertEqual((live.mat, live.rings, live.closed(), live.through_now()), (E, 1, 3, 1))
        self.assert_same_kind(live.least(), (0,))
        self.assertIsNone(live.undo())
        self.assertEqual((live.mat, live.rings, live.word), (E, 0, (0, 1, 0)))
        self.assertIsNone(live.put(1))
        self.assertEqual((live.word, live.least(), live.closed()), ((0, 1, 0, 1), (0, 1), 1))

    def test_at_first_straight(self):
        for n in range(1, 9):
            live = Live(n)
            self.assert_live(live, n, [])
            self.assertEqual((live.mat, live.least() if n < 8 else ()), (oracles.straight(n), ()))

    def test_in_any_order(self):
        for n in range(1, 9):
            for seed in range(12):
                chance, live, hooks = random.Random(100 * n + seed), Live(n), []
                for _ in range(40):
                    deed = chance.choice(("put", "put", "put_all", "undo", "undo", "nothing"))
                    if deed == "undo" and hooks:
                        self.assertIsNone(live.undo())
                        hooks.pop()
                    elif deed == "put" and n > 1:
                        hooks.append(chance.randrange(n - 1))
                        self.assertIsNone(live.put(hooks[-1]))
                    elif deed == "put_all" and len(hooks) < 55:
                        word = tuple(chance.randrange(n - 1) for _ in range(chance.randrange(5) if n > 1 else 0))
                        hooks.extend(word)
                        self.assertIsNone(live.put_all(word))
                    self.assert_live(live, n, hooks)

    def test_all_words_of_few_hooks(self):
        level = [()]
        for _ in range(5):
            for word in level:
                self.assert_live(put_on(4, word), 4, list(word))
            level = [word + (hook,) for word in level for hook in range(3)]

    def test_put_all_of_nothing(self):
        for n in range(1, 9):
            live = Live(n)
            self.assertIsNone(live.put_all(()))
            self.assert_live(live, n, [])
            self.assert_raised(NothingToUndo, 0, live.undo)

    def test_a_word_is_taken_back_hook_by_hook(self):
        word = (2, 0, 1, 1, 2, 2, 0, 1, 0, 0)
        live = put_on(4, word)
        for left in range(len(word) - 1, -1, -1):
            self.assertIsNone(live.undo())
            self.assert_live(live, 4, list(word[:left]))
        self.assert_raised(NothingToUndo, 0, live.undo)
        self.assert_live(live, 4, [])
        live.put(2)
        self.assert_live(live, 4, [2])

    def test_sixty_hooks_of_eight(self):
        chance = random.Random(1)
        for hooks in ([chance.randrange(7) for _ in range(60)], [0] * 60, [6, 5] * 30, list(range(7)) * 8 + [3] * 4):
            live = Live(8)
            self.in_time(live.put_all, tuple(hooks))
            self.assert_live(live, 8, hooks)
            self.assert_live(self.in_time(live.twin), 8, hooks)
            for left in range(59, -1, -1):
                live.undo()
                if left % 7 == 0:
                    self.assert_live(live, 8, hooks[:left])
            for hook in hooks:
                self.in_time(live.put, hook)
            self.assert_live(live, 8, hooks)


class TestLeast(LiveCase):

    def test_all_mats(self):
        for n in range(1, 6):
            for mat, told in oracles.shortest_words(n).items():
                for word in told[:3]:
                    live = put_on(n, word + word[-1:])
                    self.assertEqual(live.mat, mat)
                    self.assert_same_kind(live.least(), told[0])

    def test_to_seven(self):
        chance = random.Random(2)
        for n in (6, 7):
            for _ in range(40):
                live = put_on(n, tuple(chance.randrange(n - 1) for _ in range(chance.randrange(60))))
                least = self.in_time(live.least)
                self.assertEqual(oracles.value(n, least), (0, live.mat))
                self.assert_same_kind(least, words.least_word(live.mat))
                if n == 6:
                    self.assertEqual(least, oracles.shortest_words(6)[live.mat][0])

    def test_closed_either_way(self):
        chance = random.Random(3)
        for n in range(2, 8):
            for _ in range(15):
                one, other = [tuple(chance.randrange(n - 1) for _ in range(chance.randrange(15))) for _ in range(2)]
                self.assertEqual(put_on(n, one + other).closed(), put_on(n, other + one).closed())

    def test_the_value_of_the_least_word_closed(self):
        chance = random.Random(4)
        for n in range(2, 8):
            live = put_on(n, tuple(chance.randrange(n - 1) for _ in range(20)))
            self.assertEqual(put_on(n, live.least()).closed() + live.rings, live.closed())


class TestTwin(LiveCase):

    def test_it_tells_the_same(self):
        chance = random.Random(5)
        for n in range(1, 9):
            for many in (0, 1, 7, 30):
                hooks = [chance.randrange(n - 1) for _ in range(many)] if n > 1 else []
                live = put_on(n, tuple(hooks))
                twin = live.twin()
                self.assertIsInstance(twin, Live)
                self.assertIsNot(twin, live)
                self.assert_live(twin, n, hooks)
                for hook in NO_HOOKS[n]:
                    self.assert_raised_itself(InvalidHook, hook, twin.put, hook)

    def test_neither_changes_with_the_other_one(self):
        live = put_on(4, (0, 1, 2, 2))
        twin = live.twin()
        live.put(0)
        self.assert_live(twin, 4, [0, 1, 2, 2])
        twin.put_all((1, 1))
        self.assert_live(live, 4, [0, 1, 2, 2, 0])
        for _ in range(5):
            live.undo()
        self.assert_live(twin, 4, [0, 1, 2, 2, 1, 1])
        for left in (5, 4, 3, 2, 1, 0):
            twin.undo()
            self.assert_live(twin, 4, [0, 1, 2, 2, 1, 1][:left])
        self.assert_raised(NothingToUndo, 0, twin.undo)
        live.put(2)
        self.assert_live(twin, 4, [])
        self.assert_live(live, 4, [2])

    def test_a_twin_of_a_twin(self):
        first = put_on(5, (0, 1))
        second = first.twin()
        second.put(2)
        third = second.twin()
        third.put(3)
        second.undo()
        first.undo()
        self.assert_live(first, 5, [0])
        self.assert_live(second, 5, [0, 1])
        self.assert_live(third, 5, [0, 1, 2, 3])

    def test_live_mats_know_nothing_of_one_another(self):
        some = [Live(4) for _ in range(3)]
        some[1].put_all((0, 2))
        some[2].put(1)
        for live, hooks in zip(some, ([], [0, 2], [1])):
            self.assert_live(live, 4, hooks)


class TestErrors(LiveCase):

    def test_wrong_n(self):
        for n in BELOW_ONE:
            self.assert_raised_itself(InvalidNumber, n, Live, n)

    def test_a_wrong_hook_changes_nothing(self):
        for n in range(1, 9):
            hooks = [0, n - 2, 0] if n > 1 else []
            live = put_on(n, tuple(hooks))
            for hook in NO_HOOKS[n]:
                self.assert_raised_itself(InvalidHook, hook, live.put, hook)
                self.assert_live(live, n, hooks)

    def test_a_wrong_hook_at_any_place_of_a_word(self):
        for n in range(1, 9):
            live, hooks = Live(n), []
            if n > 1:
                live.put(0)
                hooks.append(0)
            for many in range(6 if n > 1 else 1):
                for at in range(many + 1):
                    for hook in NO_HOOKS[n]:
                        word = (0,) * at + (hook,) + (n - 2,) * (many - at)
                        self.assert_raised_itself(InvalidHook, hook, live.put_all, word)
                        self.assert_live(live, n, hooks)

    def test_the_first_wrong_hook(self):
        live = put_on(3, (1,))
        for one, other in ((2, -1), (-1, 2), (FAR, -FAR)):
            self.assert_raised_itself(InvalidHook, one, live.put_all, (0, one, 1, other))
            self.assert_raised_itself(InvalidHook, one, live.put_all, (one, other))
        self.assert_live(live, 3, [1])

    def test_nothing_to_undo(self):
        for n in range(1, 9):
            live = Live(n)
            for _ in range(2):
                self.assert_raised(NothingToUndo, 0, live.undo)
                self.assert_live(live, n, [])
        live = put_on(2, (0,))
        self.assertIsNone(live.undo())
        self.assert_raised(NothingToUndo, 0, live.undo)
        live.put(0)
        self.assert_live(live, 2, [0])


class TestCalls(LiveCase):

    def test_by_name(self):
        live = Live(n=3)
        self.assertIsNone(live.put(hook=1))
        self.assertIsNone(live.put_all(word=(0, 0)))
        self.assert_live(live, 3, [1, 0, 0])
        for call, names in ((Live.__init__, "n"), (Live.put, "hook"), (Live.put_all, "word"), (Live.undo, "")):
            self.assertEqual(list(inspect.signature(call).parameters)[1:], names.split())

    def test_asking_changes_nothing(self):
        live = put_on(5, (0, 3, 3, 2))
        for _ in range(2):
            self.assert_live(live, 5, [0, 3, 3, 2])
            self.assertEqual((live.least(), live.twin().word), ((0, 3, 2), (0, 3, 3, 2)))

    def test_what_was_told_may_be_passed_on(self):
        live = put_on(5, (0, 3, 3, 2))
        other = put_on(5, live.least())
        other.put_all(live.word)
        self.assertEqual(other.word, (0, 3, 2, 0, 3, 3, 2))
        self.assertEqual(words.value_of(5, other.word), (other.rings, other.mat))


if __name__ == "__main__":
    unittest.main()
