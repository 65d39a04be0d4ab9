"""Reading back what texts.py shows."""

from hookmats.errors import Unreadable
from hookmats.mats import is_mat
from hookmats.parts import is_parts
from hookmats.sums import is_sum
from hookmats.texts import show_mat, show_parts, show_poly, show_sum, show_walk, show_word
from hookmats.walks import is_walk

MOST_DIGITS = 30
GREATEST_POWER = 1000
# The powers that are shown without a number.
SHORT_POWERS = {"": "0", "w": "1"}


# A text is read without looking at each sign: whatever is made of it is right
# only if the very same text is shown of it. So what reads a part of a text tells
# None only of what nothing can be made of.


def _number(text):
    """The integer of a text, or None if it is none, or has too many digits."""
    digits = text.removeprefix("-")
    if not digits.isdigit() or len(digits) > MOST_DIGITS:
        return None
    return int(text)


def _numbers(texts):
    """The tuple of the integers of texts, or None if one is none."""
    found = tuple([_number(text) for text in texts])
    return None if None in found else found


def _mat(text):
    head, _, tail = text.partition(": ")
    sizes = _numbers(head.split("|"))
    pairs = [_numbers(pair.split("-")) for pair in tail.split(" ")]
    if sizes is None or len(sizes) != 2 or not all([pair is not None and len(pair) == 2 for pair in pairs]):
        return None
    mates = {}
    for peg, mate in pairs:
        mates[peg] = mate
        mates[mate] = peg
    if sorted(mates) != list(range(len(mates))):
        return None
    mat = sizes + (tuple([mates[peg] for peg in range(len(mates))]),)
    return mat if is_mat(mat) else None


def _term(text):
    """The tuple (coefficient, power) of a part of a polynomial's text, or None."""
    coefficient, _, power = text.partition(" ")
    told = _numbers([coefficient, SHORT_POWERS.get(power, power.removeprefix("w^"))])
    return None if told is None or not 0 <= told[1] <= GREATEST_POWER else told


def _poly(text):
    terms = [_term(part) for part in text.split(" + ")]
    if None in terms:
        return None
    row = [0] * (GREATEST_POWER + 1)
    for coefficient, power in terms:
        row[power] = coefficient
    while row and row[-1] == 0:
        row.pop()
    return tuple(row)


def _part_of_sum(text):
    """The tuple (mat, polynomial) of a part of a sum's text, or None."""
    poly, _, mat = text.removesuffix("]").partition(" [")
    told = (_mat(mat), _poly(poly))
    return None if None in told else told


def _sum(text):
    if text == "0":
        return ()
    told = tuple([_part_of_sum(part) for part in text.split(" ; ")])
    return told if None not in told and is_sum(told) else None


def _parts(text):
    told = tuple([_numbers(part.split(" ")) for part in text.split(" / ")])
    return told if None not in told and is_parts(told) else None


def read_mat(text):
    """The mat with a text."""
    mat = _mat(text)
    if mat is None or show_mat(mat) != text:
        raise Unreadable(text)
    return mat


def read_word(text):
    """The word with a text."""
    word = () if text == "-" else _numbers(text.split(" "))
    if word is None or min(word, default=0) < 0 or show_word(word) != text:
        raise Unreadable(text)
    return word


def read_poly(text):
    """The polynomial with a text."""
    poly = _poly(text)
    if poly is None or show_poly(poly) != text:
        raise Unreadable(text)
    return poly


def read_sum(text):
    """The sum with a text."""
    told = _sum(text)
    if told is None or show_sum(told) != text:
        raise Unreadable(text)
    return told


def read_parts(text):
    """The parts with a text."""
    told = _parts(text)
    if told is None or show_parts(told) != text:
        raise Unreadable(text)
    return told


def read_walk(text):
    """The walk with a text."""
    walk = () if text == "." else tuple([1 if sign == "+" else -1 for sign in text])
    if not is_walk(walk) or show_walk(walk) != text:
        raise Unreadable(text)
    return walk
