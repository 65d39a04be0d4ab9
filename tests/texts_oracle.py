"""Texts as texts.py shows them, and what has them: sign by sign, by patterns, apart from the package's own."""

import re

from tests import oracles

FROM_0 = r"(?:0|[1-9][0-9]{0,29})"
BUT_0 = r"-?[1-9][0-9]{0,29}"


def some_poly(chance, longest, digits):
    row = [chance.choice((0, 1, -1, chance.randrange(-10 ** digits + 1, 10 ** digits)))
           for _ in range(chance.randint(1, longest))]
    return tuple(row[:-1] + [row[-1] or 7])


def show_mat(mat):
    text = str(mat[0]) + "|" + str(mat[1]) + ":"
    for p, q in sorted(oracles.pairs_of(mat[2])):
        text += " " + str(p) + "-" + str(q)
    return text


def show_word(word):
    text = ""
    for hook in word:
        text += (" " if text else "") + str(hook)
    return text or "-"


def show_poly(poly):
    text = ""
    for power in range(len(poly)):
        if poly[power] != 0:
            text += " + " if text else ""
            text += str(poly[power]) + {0: "", 1: " w"}.get(power, " w^" + str(power))
    return text or "0"


def show_sum(told):
    text = ""
    for mat, poly in told:
        text += (" ; " if text else "") + show_poly(poly) + " [" + show_mat(mat) + "]"
    return text or "0"


def show_parts(told):
    text = ""
    for part in told:
        text += " / " if text else ""
        text += show_word(part)
    return text


def show_walk(walk):
    return {(): "."}.get(walk, "".join({1: "+", -1: "-"}[step] for step in walk))


# Each of these tells what has a text, None if nothing right has it, or integers are too great.


def ascending(row):
    return all(one < other for one, other in zip(row, row[1:]))


def read_mat(text):
    found = re.fullmatch("(%s)[|](%s):((?: %s-%s)+)" % ((FROM_0,) * 4), text)
    if not found:
        return None
    n, m = int(found[1]), int(found[2])
    pairs = [tuple(int(peg) for peg in pair.split("-")) for pair in found[3].split()]
    if n + m != 2 * len(pairs) or sorted(peg for pair in pairs for peg in pair) != list(range(2 * len(pairs))):
        return None
    mat = oracles.mat_of(n, m, pairs)
    return mat if pairs == oracles.pairs_of(mat[2]) and oracles.is_mat(mat) else None


def read_word(text):
    if text == "-":
        return ()
    return tuple(map(int, text.split())) if re.fullmatch("%s(?: %s)*" % (FROM_0, FROM_0), text) else None


def read_poly(text):
    if text == "0":
        return ()
    powers, row = [], {}
    for part in re.split("[ ][+][ ]", text):
        found = re.fullmatch("(%s)(?:| (w)|(?: w\\^([1-9][0-9]{0,3})))" % BUT_0, part)
        if not found:
            return None
        power = 1 if found[2] else int(found[3]) if found[3] else 0
        if found[3] and not 2 <= power <= 1000:
            return None
        powers.append(power)
        row[power] = int(found[1])
    return tuple(row.get(power, 0) for power in range(powers[-1] + 1)) if ascending(powers) else None


def read_sum(text):
    if text == "0":
        return ()
    told = []
    for part in re.split(" ; ", text):
        found = re.fullmatch("([^[]*) \\[([^]]*)\\]", part)
        if not found:
            return None
        told.append((read_mat(found[2]), read_poly(found[1])))
    if not all(mat and poly for mat, poly in told):
        return None
    right = ascending([mat for mat, _ in told]) and len({mat[:2] for mat, _ in told}) == 1
    return tuple(told) if right else None


def read_parts(text):
    if not re.fullmatch("%s(?:(?: | / )%s)*" % (FROM_0, FROM_0), text):
        return None
    told = tuple(tuple(map(int, part.split())) for part in text.split(" / "))
    return told if oracles.is_parts(told) else None


def read_walk(text):
    if text == ".":
        return ()
    if not re.fullmatch("[+-]+", text):
        return None
    walk = tuple(1 if sign == "+" else -1 for sign in text)
    return walk if oracles.is_walk(walk) else None
