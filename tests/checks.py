"""What several of the tests ask."""

import copy
import unittest


class Case(unittest.TestCase):

    def assert_raised(self, error, value, call, *args, **more):
        """The call raises this very class, and the value is this very thing or one like it."""
        with self.assertRaises(error) as caught:
            call(*args, **more)
        self.assertIs(caught.exception.__class__, error)
        self.assertEqual(caught.exception.value, value)
        self.assertIs(caught.exception.value.__class__, value.__class__)
        return caught.exception.value

    def assert_raised_itself(self, error, value, call, *args, **more):
        self.assertIs(self.assert_raised(error, value, call, *args, **more), value)

    def assert_by_name(self, call, **named):
        """By position and by name it is the same, and what is passed stays as it was."""
        kept = copy.deepcopy(named)
        answer = call(*named.values())
        self.assertEqual(call(**named), answer)
        self.assertEqual(call(**dict(reversed(named.items()))), answer)
        self.assertEqual(named, kept)

    def assert_same_kind(self, answer, wanted):
        """Alike, and of the same classes (1 is not True, a tuple no list)."""
        self.assertEqual(answer, wanted)
        self.assertIs(answer.__class__, wanted.__class__)
        if isinstance(wanted, (tuple, list)):
            for part, wanted_part in zip(answer, wanted):
                self.assert_same_kind(part, wanted_part)


# Tuples (integer, integer, tuple of integers) that are no mats, each for a reason of its own.
NO_MATS = {
    "no pegs": (0, 0, ()),
    "pegs told, none there": (1, 1, ()),
    "mates there, no pegs told": (0, 0, (1, 0)),
    "above below 0": (-1, 3, (1, 0)),
    "below below 0": (3, -1, (1, 0)),
    "both below 0": (-1, -1, (1, 0)),
    "an odd number": (2, 1, (1, 0, 2)),
    "one peg": (1, 0, (0,)),
    "too many mates": (1, 1, (1, 0, 3, 2)),
    "too few mates": (2, 2, (1, 0)),
    "one mate too many": (1, 1, (1, 0, 0)),
    "one mate too few": (2, 2, (1, 0, 3)),
    "a mate beyond": (1, 1, (1, 2)),
    "a mate far beyond": (1, 1, (10 ** 30, 0)),
    "a mate below 0": (1, 1, (-1, 0)),
    "mates from behind": (1, 1, (-1, -2)),
    "its own mate": (1, 1, (0, 1)),
    "its own mate, another pair right": (2, 2, (1, 0, 2, 3)),
    "a mate that does not agree": (2, 2, (1, 2, 3, 0)),
    "two with one mate": (2, 2, (1, 0, 0, 2)),
    "crossing, two through": (2, 2, (3, 2, 1, 0)),
    "crossing above": (4, 0, (2, 3, 0, 1)),
    "crossing below": (0, 4, (2, 3, 0, 1)),
    "a cap across one through": (3, 1, (2, 3, 0, 1)),
    "crossing, right with the numbers exchanged": (2, 4, (1, 0, 4, 5, 2, 3)),
}
