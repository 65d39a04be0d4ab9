"""The errors of the package: each holds the very thing that is wrong."""


class MatError(ValueError):
    """The base of all errors of the package."""

    def __init__(self, value):
        self.value = value


class InvalidMat(MatError):
    """A tuple is no mat, or not one that is wanted."""


class InvalidPair(MatError):
    """Two things do not fit one another."""


class InvalidNumber(MatError):
    """A number is not one that is wanted."""


class InvalidHook(MatError):
    """There is no hook with this index."""


class InvalidPeg(MatError):
    """There is no such peg, or no such place."""


class InvalidPoly(MatError):
    """A tuple is no polynomial."""


class InvalidSum(MatError):
    """A tuple is no sum."""


class InvalidMoves(MatError):
    """A move cannot be made."""


class InvalidPrime(MatError):
    """A number is none of the primes that are wanted."""


class InvalidBraid(MatError):
    """There is no such crossing."""


class NoDivisor(MatError):
    """A divisor is 0."""


class NotSquare(MatError):
    """A mat has not as many pegs below as above."""


class InvalidWalk(MatError):
    """A tuple is no walk."""


class InvalidParts(MatError):
    """A tuple is no parts."""


class InvalidRoom(MatError):
    """There is no room with this index."""


class InvalidString(MatError):
    """A string is the only one of its mat."""


class InvalidName(MatError):
    """A text is no name."""


class DoubleName(MatError):
    """A name is there already."""


class UnknownName(MatError):
    """A name is not there."""


class WrongKind(MatError):
    """A name is that of the other kind."""


class NothingToUndo(MatError):
    """Nothing stands that could be taken back."""


class Unreadable(MatError):
    """A text cannot be read."""
