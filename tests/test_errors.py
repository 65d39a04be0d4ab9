"""errors.py, [3]: the classes and what they hold."""

import unittest

from hookmats import errors

NAMES = (
    "InvalidMat InvalidPair InvalidNumber InvalidHook InvalidPeg InvalidPoly InvalidSum InvalidMoves "
    "InvalidPrime InvalidBraid NoDivisor NotSquare InvalidWalk InvalidParts InvalidRoom InvalidString "
    "InvalidName DoubleName UnknownName WrongKind NothingToUndo Unreadable"
).split()
CLASSES = [getattr(errors, name) for name in NAMES]
VALUES = [
    None, True, False, 0, -1, 10 ** 400, "", "a text", (), (1, (2, [3])), [], [[1], {"a": [2]}], {},
    {"a": {"b": [1]}}, ValueError("within"), errors.InvalidMat((1, 0, (0,))), object(), int, 1.5, b"bytes",
]


class TestClasses(unittest.TestCase):

    def test_there_are_22_and_the_base(self):
        self.assertEqual(len(CLASSES), 22)
        self.assertEqual([error.__name__ for error in CLASSES], NAMES)
        self.assertEqual({error.__module__ for error in CLASSES + [errors.MatError]}, {"hookmats.errors"})

    def test_each_is_a_direct_subclass_of_the_base_alone(self):
        self.assertEqual(errors.MatError.__bases__, (ValueError,))
        for error in CLASSES:
            self.assertEqual(error.__bases__, (errors.MatError,))

    def test_none_is_a_subclass_of_another(self):
        for one in CLASSES:
            for other in CLASSES:
                self.assertEqual(issubclass(one, other), one is other)
            self.assertFalse(issubclass(errors.MatError, one))

    def test_each_is_caught_as_its_bases(self):
        for error in CLASSES:
            for base in (error, errors.MatError, ValueError, Exception):
                with self.assertRaises(base):
                    raise error(1)
            for stranger in (KeyError, TypeError, IndexError):
                self.assertFalse(issubclass(error, stranger))


class TestValue(unittest.TestCase):

    def test_it_is_the_very_thing(self):
        for error in CLASSES:
            for value in VALUES:
                self.assertIs(error(value).value, value)
                self.assertIs(error(value=value).value, value)

    def test_it_is_not_copied_and_not_changed(self):
        inner = [1]
        value = {"a": inner}
        for error in CLASSES:
            self.assertIs(error(value).value["a"], inner)
        self.assertEqual(value, {"a": [1]})

    def test_one_argument_is_wanted(self):
        for error in CLASSES:
            for wrong in ((), (1, 2)):
                with self.assertRaises(TypeError):
                    error(*wrong)
            with self.assertRaises(TypeError):
                error(told=1)

    def test_each_object_has_its_own(self):
        for error in CLASSES:
            one, other = error(1), error(2)
            self.assertEqual((one.value, other.value), (1, 2))


if __name__ == "__main__":
    unittest.main()
