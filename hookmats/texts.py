"""Texts that show mats, words, polynomials, sums, parts and walks."""

from hookmats.mats import strings


def _numbers(row):
    """Numbers, separated by a space."""
    return " ".join([str(number) for number in row])


def show_mat(mat):
    """The text of a mat: the pegs above and below, and its strings."""
    pairs = " ".join([f"{peg}-{mate}" for peg, mate in strings(mat)])
    return f"{mat[0]}|{mat[1]}: {pairs}"


def show_word(word):
    """The text of a word: its hooks, or - if there are none."""
    return _numbers(word) if word else "-"


def _term(coefficient, power):
    if power == 0:
        return str(coefficient)
    return f"{coefficient} w" if power == 1 else f"{coefficient} w^{power}"


def show_poly(poly):
    """The text of a polynomial: its coefficients but 0, with their powers."""
    terms = [_term(coefficient, power) for power, coefficient in enumerate(poly) if coefficient]
    return " + ".join(terms) if terms else "0"


def show_sum(told):
    """The text of a sum: each polynomial with its mat."""
    return " ; ".join([f"{show_poly(poly)} [{show_mat(mat)}]" for mat, poly in told]) if told else "0"


def show_parts(told):
    """The text of parts: the numbers of each tuple."""
    return " / ".join([_numbers(part) for part in told])


def show_walk(walk):
    """The text of a walk: + for 1, - for -1, or . if there are no steps."""
    return "".join(["+" if step == 1 else "-" for step in walk]) if walk else "."
