"""What several of the tests ask."""

import copy
import time
import unittest

from hookmats.errors import MatError


def lists_within(answer):
    """All lists of an answer, itself included, also those within tuples."""
    if not isinstance(answer, (list, tuple)):
        return []
    return ([answer] if isinstance(answer, list) else []) + [one for part in answer for one in lists_within(part)]


class Case(unittest.TestCase):

    def assert_raised(self, error, value, call, *args, **more):
        """The call raises this very class, and the value is this very thing or one like it."""
        with self.assertRaises(error) as caught:
            call(*args, **more)
        self.assertIs(caught.exception.__class__, error)
        self.assertEqual(caught.exception.value, value)
        self.assertIs(caught.exception.value.__class__, value.__class__)
        return caught.exception.value

    def assert_raised_itself(self, error, value, call, *args, **more):
        self.assertIs(self.assert_raised(error, value, call, *args, **more), value)

    def assert_by_name(self, call, **named):
        """By position and by name it is the same, and what is passed stays as it was."""
        kept = copy.deepcopy(named)
        answer = call(*named.values())
        self.assertEqual(call(**named), answer)
        self.assertEqual(call(**dict(reversed(named.items()))), answer)
        self.assertEqual(named, kept)

    def assert_new_lists(self, call, *args):
        """Each list that is returned is new: none stands in two places, and to change it changes no answer."""
        one, other = call(*args), call(*args)
        lists = lists_within(one) + lists_within(other) + lists_within(args)
        self.assertTrue(lists_within(one))
        self.assertEqual(len(lists), len({id(told) for told in lists}))
        for told in lists_within(one):
            told.clear()
        self.assertEqual(call(*args), other)

    def assert_answered_still(self, call, right, *wrong):
        """What is right behind wrong calls is answered as ahead of them."""
        ahead = call(*right)
        for args in wrong:
            with self.assertRaises(MatError):
                call(*args)
            self.assert_same_kind(call(*right), ahead)

    def in_time(self, call, *args):
        """The answer, which is there in good time: far longer than it takes, far shorter than going astray."""
        begun = time.perf_counter()
        answer = call(*args)
        self.assertLess(time.perf_counter() - begun, 20)
        return answer

    def assert_same_kind(self, answer, wanted):
        """Alike, and of the same classes (1 is not True, a tuple no list)."""
        self.assertEqual(answer, wanted)
        self.assertIs(answer.__class__, wanted.__class__)
        if isinstance(wanted, (tuple, list)):
            for part, wanted_part in zip(answer, wanted):
                self.assert_same_kind(part, wanted_part)


# Tuples (integer, integer, tuple of integers) that are no mats, each for a reason of its own.
NO_MATS = {
    "no pegs": (0, 0, ()),
    "pegs told, none there": (1, 1, ()),
    "mates there, no pegs told": (0, 0, (1, 0)),
    "above below 0": (-1, 3, (1, 0)),
    "below below 0": (3, -1, (1, 0)),
    "both below 0": (-1, -1, (1, 0)),
    "an odd number": (2, 1, (1, 0, 2)),
    "one peg": (1, 0, (0,)),
    "too many mates": (1, 1, (1, 0, 3, 2)),
    "too few mates": (2, 2, (1, 0)),
    "one mate too many": (1, 1, (1, 0, 0)),
    "one mate too few": (2, 2, (1, 0, 3)),
    "a mate beyond": (1, 1, (1, 2)),
    "a mate far beyond": (1, 1, (10 ** 30, 0)),
    "a mate below 0": (1, 1, (-1, 0)),
    "mates from behind": (1, 1, (-1, -2)),
    "its own mate": (1, 1, (0, 1)),
    "its own mate, another pair right": (2, 2, (1, 0, 2, 3)),
    "a mate that does not agree": (2, 2, (1, 2, 3, 0)),
    "two with one mate": (2, 2, (1, 0, 0, 2)),
    "crossing, two through": (2, 2, (3, 2, 1, 0)),
    "crossing above": (4, 0, (2, 3, 0, 1)),
    "crossing below": (0, 4, (2, 3, 0, 1)),
    "a cap across one through": (3, 1, (2, 3, 0, 1)),
    "crossing, right with the numbers exchanged": (2, 4, (1, 0, 4, 5, 2, 3)),
}

# Tuples of integers that are no polynomials.
NO_POLYS = [(0,), (0, 0), (1, 0), (0, 1, 0), (-1, 0, 0), (10 ** 29,) * 29 + (0,), (0,) * 30]

# Integers that are no primes from 2 to 97.
NO_PRIMES = [0, 1, -1, -2, -3, -97, 4, 6, 9, 25, 49, 91, 95, 96, 98, 99, 100, 101, 103, 7919, 10 ** 30, -(10 ** 30)]
PRIMES = [p for p in range(2, 98) if all(p % d for d in range(2, p))]

# What is no n, and numbers below 0.
BELOW_ONE = [0, -1, -2, -(10 ** 30)]

_HOOK, _STRAIGHT, _ONE = (2, 2, (1, 0, 3, 2)), (2, 2, (2, 3, 0, 1)), (1, 1, (1, 0))

# Tuples of tuples (tuple (integer, integer, tuple of integers), tuple of integers) that are no sums.
NO_SUMS = {
    "two exchanged": ((_STRAIGHT, (1,)), (_HOOK, (1,))),
    "two exchanged, the polynomials ascending": ((_STRAIGHT, (1,)), (_HOOK, (2,))),
    "one twice": ((_HOOK, (1,)), (_HOOK, (1,))),
    "one twice, behind another": ((_HOOK, (1,)), (_STRAIGHT, (1,)), (_STRAIGHT, (1,))),
    "a mat twice, polynomials ascending": ((_HOOK, (1,)), (_HOOK, (2,))),
    "a mat twice, polynomials descending": ((_HOOK, (2,)), (_HOOK, (1,))),
    "a mat twice, not side by side": ((_HOOK, (1,)), (_STRAIGHT, (1,)), (_HOOK, (1,))),
    "a polynomial 0": ((_HOOK, ()),),
    "the second polynomial 0": ((_HOOK, (1,)), (_STRAIGHT, ())),
    "a last 0": ((_HOOK, (1, 0)),),
    "0 as a last 0": ((_HOOK, (0,)),),
    "the second with a last 0": ((_HOOK, (1,)), (_STRAIGHT, (0, 1, 0))),
    "mats of other pegs": ((_ONE, (1,)), (_HOOK, (1,))),
    "mats of other pegs, descending": ((_HOOK, (1,)), (_ONE, (1,))),
    "as many above, others below": (((1, 1, (1, 0)), (1,)), ((1, 3, (1, 0, 3, 2)), (1,))),
    "as many below, others above": ((_ONE, (1,)), ((3, 1, (1, 0, 3, 2)), (1,))),
    "as many together": ((_HOOK, (1,)), ((3, 1, (1, 0, 3, 2)), (1,))),
    "the third of other pegs": ((_HOOK, (1,)), (_STRAIGHT, (1,)), ((3, 1, (1, 0, 3, 2)), (1,))),
    "a tuple that is no mat": (((2, 2, (3, 2, 1, 0)), (1,)),),
    "the second is no mat": ((_HOOK, (1,)), ((2, 2, (3, 2, 1, 0)), (1,))),
    "no pegs": (((0, 0, ()), (1,)),),
}

# Mats that are no arches: there are pegs below.
NO_ARCHES = [
    (1, 1, (1, 0)), (2, 2, (1, 0, 3, 2)), (0, 2, (1, 0)), (0, 4, (3, 2, 1, 0)), (3, 1, (1, 0, 3, 2)),
    (1, 3, (3, 2, 1, 0)), (4, 2, (1, 0, 3, 2, 5, 4)), (8, 8, tuple(range(8, 16)) + tuple(range(8))),
]

# Tuples of tuples of integers that are no parts.
NO_PARTS = {
    "nothing": (),
    "an empty one": ((),),
    "two empty ones": ((), ()),
    "an empty one ahead": ((), (0,)),
    "an empty one behind": ((0,), ()),
    "an empty one between": ((0,), (), (1,)),
    "a number twice": ((0, 0),),
    "a number in two": ((0,), (0,)),
    "a number in two, all there": ((0, 1), (1, 2)),
    "a number twice, as many as wanted": ((0, 1), (1,)),
    "0 missing": ((1,),),
    "0 missing of more": ((1, 2), (3,)),
    "a number missing": ((0, 2),),
    "a number missing between": ((0,), (2,)),
    "too great": ((0, 1, 3),),
    "far too great": ((0,), (10 ** 30,)),
    "below 0": ((-1, 0),),
    "below 0 alone": ((-1,),),
    "below 0, from behind": ((-1,), (0,), (1,)),
    "far below 0": ((-(10 ** 30), 0),),
    "tuples exchanged": ((1,), (0,)),
    "the last tuples exchanged": ((0, 3), (2,), (1,)),
    "tuples by length": ((1,), (0, 2)),
    "numbers exchanged": ((1, 0),),
    "the last numbers exchanged": ((0, 2, 1),),
    "numbers exchanged in the second": ((0,), (2, 1)),
    "numbers turned": ((1, 2, 0),),
    "two that cross": ((0, 2), (1, 3)),
    "two that cross, more in one": ((0, 2, 4), (1, 3)),
    "two that cross, others between": ((0, 3), (1, 5), (2,), (4,)),
    "two that cross behind another": ((0,), (1, 3), (2, 4)),
    "two that cross within another": ((0, 5), (1, 3), (2, 4)),
    "the last ones cross": ((0, 1), (2, 4, 6), (3,), (5, 7)),
    "each crosses each": ((0, 3), (1, 4), (2, 5)),
    "one that comes back": ((0, 1, 4), (2, 5), (3,)),
}

# Tuples of integers that are no walks.
NO_WALKS = {
    "down at once": (-1,),
    "down at once, then up": (-1, 1),
    "down at once, up above": (-1, 1, 1, 1),
    "down from 0": (1, -1, -1),
    "down from 0, then up": (1, -1, -1, 1),
    "down from 0 again": (1, -1, 1, -1, -1, 1, 1, 1),
    "down from 0 late": (1, 1, -1, -1, -1, 1, 1),
    "down at the end": (1, 1, -1, -1, 1, -1, -1),
    "0": (0,),
    "0 within": (1, 0, -1),
    "0 at the end": (1, -1, 0),
    "2": (2,),
    "2 within": (1, 2, -1),
    "-2": (1, 1, -2),
    "-2 far above": (1, 1, 1, 1, -2),
    "far": (10 ** 30,),
    "far below": (1, -(10 ** 30)),
    "far and back": (10 ** 30, -(10 ** 30)),
    "down from 0 after sixty": (1, -1) * 29 + (-1, 1),
}

# Texts that are no names.
NO_NAMES = [
    "", " ", "A", "Z", "aB", "abcdefghi", "a" * 9, "a" * 300, "1", "a1", "1a", "a b", " a", "a ", "a\n", "\na", "a\t",
    "a-b", "a_b", "_", "-", ".", "a.", "a|b", "[a]", "`", "{", "a`", "a{", "@", "~", "+", "0", "abcdefg\n", "abcdefgH",
]
