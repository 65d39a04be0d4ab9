"""Slow, plain ways to tell what the document says, apart from the package's own."""

from fractions import Fraction
from functools import lru_cache
from itertools import product, zip_longest
from math import comb, gcd, lcm


def round_about(n, m):
    return [*range(n), *reversed(range(n, n + m))]


def cross(n, m, one, other):
    """By the words of [4]: just one peg of the one stands, round about, between those of the other."""
    place = {peg: at for at, peg in enumerate(round_about(n, m))}
    low, high = sorted(place[peg] for peg in other)
    return sum(low < place[peg] < high for peg in one) == 1


def pairs_of(mates):
    return [(p, q) for p, q in enumerate(mates) if p < q]


def is_mat(told):
    n, m, mates = told
    if min(n, m) < 0 or n + m < 2 or (n + m) % 2 or len(mates) != n + m:
        return False
    for peg, mate in enumerate(mates):
        if mate not in range(n + m) or mate == peg or mates[mate] != peg:
            return False
    pairs = pairs_of(mates)
    return not any(cross(n, m, one, other) for one in pairs for other in pairs if one != other)


@lru_cache(None)
def matchings(pegs):
    """All ways to pair pegs, crossing or not, each a tuple of pairs."""
    if not pegs:
        return ((),)
    found = []
    for mate in pegs[1:]:
        left = tuple(peg for peg in pegs[1:] if peg != mate)
        found.extend(((pegs[0], mate), *rest) for rest in matchings(left))
    return tuple(found)


def mat_of(n, m, pairs):
    mates = {}
    for p, q in pairs:
        mates[p], mates[q] = q, p
    return (n, m, tuple(mates[peg] for peg in range(n + m)))


@lru_cache(None)
def all_mats(n, m):
    """The mats of n and m, ascending, as a tuple: those of all pairings in which no two cross."""
    if n + m == 0 or (n + m) % 2:
        return ()
    return tuple(sorted(
        mat_of(n, m, pairs)
        for pairs in matchings(tuple(range(n + m)))
        if not any(cross(n, m, one, other) for one in pairs for other in pairs if one != other)
    ))


def shapes(pegs):
    """All (n, m) with so many pegs together."""
    return [(n, pegs - n) for n in range(pegs + 1)]


def mats_to(pegs):
    """All mats of at most so many pegs."""
    return [mat for many in range(2, pegs + 1, 2) for n, m in shapes(many) for mat in all_mats(n, m)]


def squares_to(n):
    return [mat for size in range(1, n + 1) for mat in all_mats(size, size)]


def joined(one, other):
    """Put behind by growing lots of places that hang together."""
    n, m = one[0], one[1]
    k = other[1]
    name_one = [("top", i) for i in range(n)] + [("middle", i) for i in range(m)]
    name_other = [("middle", i) for i in range(m)] + [("low", i) for i in range(k)]
    lots = {name: {name} for name in name_one + name_other}
    for names, mat in ((name_one, one), (name_other, other)):
        for p, q in pairs_of(mat[2]):
            lot = lots[names[p]] | lots[names[q]]
            for name in lot:
                lots[name] = lot
    outside = [("top", i) for i in range(n)] + [("low", i) for i in range(k)]
    mates = []
    for name in outside:
        mates.append(next(at for at, end in enumerate(outside) if end != name and end in lots[name]))
    loose = {frozenset(lot) for lot in lots.values() if not any(end in lot for end in outside)}
    return len(loose), (n, k, tuple(mates))


def power(mat, times):
    rings, result = 0, mat
    for _ in range(times - 1):
        loose, result = joined(result, mat)
        rings += loose
    return rings, result


def straight(n):
    return mat_of(n, n, [(i, n + i) for i in range(n)])


def hook(n, i):
    pairs = [(j, n + j) for j in range(n) if j not in (i, i + 1)]
    return mat_of(n, n, pairs + [(i, i + 1), (n + i, n + i + 1)])


@lru_cache(None)
def with_hook(mat, i):
    return joined(mat, hook(mat[0], i))


def value(n, word):
    """By the words of [6]: all hooks of a word, put behind the straight mat one by one."""
    rings, mat = 0, straight(n)
    for i in word:
        loose, mat = with_hook(mat, i)
        rings += loose
    return rings, mat


@lru_cache(None)
def shortest_words(n):
    """For each square mat of n all its shortest words, ascending, searched length by length.

    What stands ahead of a shortest word's last hook is a shortest word itself.
    """
    found = {straight(n): [()]}
    level = dict(found)
    while level:
        further = {}
        for mat, words in level.items():
            for i in range(n - 1):
                longer = with_hook(mat, i)[1]
                if longer not in found:
                    further.setdefault(longer, []).extend((*word, i) for word in words)
        found.update(further)
        level = further
    return {mat: sorted(words) for mat, words in found.items()}


def steps(word):
    """Place by place, all moves that make a word not longer."""
    found = []
    for at in range(len(word)):
        ahead = word[at:]
        if len(ahead) > 1 and ahead[0] == ahead[1]:
            found.append(("two", at))
        if len(ahead) > 1 and ahead[1] not in (ahead[0] - 1, ahead[0], ahead[0] + 1):
            found.append(("far", at))
        if len(ahead) > 2 and ahead[2] == ahead[0] and ahead[1] in (ahead[0] - 1, ahead[0] + 1):
            found.append(("neighbours", at))
    return sorted(found)


def after_step(word, step):
    kind, at = step
    row = list(word)
    if kind == "two":
        del row[at]
    elif kind == "neighbours":
        del row[at + 1:at + 3]
    else:
        row[at], row[at + 1] = row[at + 1], row[at]
    return tuple(row)


def moved(n, word):
    """All (word, rings more) that one move of [9] makes of a word, also longer ones."""
    found = [(after_step(word, step), -1 if step[0] == "two" else 0) for step in steps(word)]
    for at, i in enumerate(word):
        found.append((word[:at] + (i, i) + word[at + 1:], 1))
        for near in (i - 1, i + 1):
            if 0 <= near < n - 1:
                found.append((word[:at] + (i, near, i) + word[at + 1:], 0))
    return found


def half_of(mat):
    """What the upper half tells: the strings above, and which pegs have one that goes through."""
    n, _, mates = mat
    return tuple(mate if mate < n else None for mate in mates[:n])


def flipped(mat):
    n, m, mates = mat
    place = [peg + m if peg < n else peg - n for peg in range(n + m)]
    return mat_of(m, n, [(place[p], place[q]) for p, q in pairs_of(mates)])


def through(mat):
    return sum(p < mat[0] <= q for p, q in pairs_of(mat[2]))


def trimmed(coefficients):
    """The polynomial of coefficients, integers or fractions."""
    row = list(coefficients)
    while row and row[-1] == 0:
        row.pop()
    return tuple(row)


def plus(one, other):
    return trimmed(a + b for a, b in zip_longest(one, other, fillvalue=0))


def times(one, other):
    powers = {}
    for i, a in enumerate(one):
        for j, b in enumerate(other):
            powers[i + j] = powers.get(i + j, 0) + a * b
    return trimmed(powers.get(power, 0) for power in range(len(one) + len(other)))


def value_at(poly, number):
    return sum(coefficient * number ** power for power, coefficient in enumerate(poly))


def parted(one, other):
    """The quotient and what is left, with fractions."""
    left, quotient = [Fraction(a) for a in one], {}
    while len(left) >= len(other):
        ahead = len(left) - len(other)
        quotient[ahead] = left[-1] / other[-1]
        left = list(plus(left, times((0,) * ahead + (-quotient[ahead],), other)))
    return trimmed(quotient.get(power, 0) for power in range(len(one))), tuple(left)


def primitive(poly):
    """The multiple of a polynomial with fractions that has integers without a common factor, the last above 0."""
    many = lcm(*(Fraction(a).denominator for a in poly))
    whole = [int(a * many) for a in poly]
    shared = gcd(*whole) if not whole or whole[-1] > 0 else -gcd(*whole)
    return tuple(a // shared for a in whole)


def common(one, other):
    """By fractions, as Euclid does; then, as for integers alone, what both contents share."""
    if not one or not other:
        told = one or other
        return told if not told or told[-1] > 0 else tuple(-a for a in told)
    shared = gcd(gcd(*one), gcd(*other))
    while other:
        one, other = other, parted(one, other)[1]
    return tuple(shared * a for a in primitive(one))


def nothing_common(one, other):
    """True if two polynomials have no common factor but 1 and -1.

    What both have in common they have by remainders of a prime, too, if this
    does not divide a last coefficient: mostly this is enough, and far quicker.
    """
    prime = 2 ** 61 - 1
    if gcd(*one, *other) != 1:
        return False
    if one and one[-1] % prime:
        ahead, behind = one, trimmed(a % prime for a in other)
        while behind:
            ahead, behind = behind, rest_by(ahead, behind, prime)
        if len(ahead) == 1:
            return True
    return common(one, other) == (1,)


def rest_by(one, other, prime):
    """What is left by remainders of a prime."""
    row, turned_over = [a % prime for a in one], pow(other[-1], -1, prime)
    while len(row) >= len(other):
        factor, ahead = row[-1] * turned_over, len(row) - len(other)
        row = list(trimmed((a - factor * b) % prime for a, b in zip(row, (0,) * ahead + other)))
    return tuple(row)


def add_to(found, mat, poly):
    found[mat] = plus(found.get(mat, ()), poly)


def sum_of_dict(found):
    return tuple(sorted((mat, poly) for mat, poly in found.items() if poly))


@lru_cache(None)
def joined_once(one, other):
    return joined(one, other)


def multiply(one, other):
    """By the words of [8]: each mat of the one with each of the other."""
    found = {}
    for mat, poly in one:
        for behind, factor in other:
            rings, whole = joined_once(mat, behind)
            add_to(found, whole, times(times(poly, factor), (0,) * rings + (1,)))
    return sum_of_dict(found)


def closed_rings(mat):
    """By the words of [10]: lots of pegs that hang together if each above is joined with the one below it."""
    n = mat[0]
    lots = {peg: {peg} for peg in range(2 * n)}
    for p, q in pairs_of(mat[2]) + [(peg, peg + n) for peg in range(n)]:
        lot = lots[p] | lots[q]
        for peg in lot:
            lots[peg] = lot
    return len({frozenset(lot) for lot in lots.values()})


def u(n):
    """U n by its closed form, not step by step: U n at q + 1 / q is the sum of q to the powers n, n - 2 .. -n."""
    row = [0] * (n + 1)
    for j in range(n // 2 + 1):
        row[n - 2 * j] = (-1) ** j * comb(n - j, j)
    return tuple(row)


def product_of(polys):
    whole = (1,)
    for poly in polys:
        whole = times(whole, poly)
    return whole


def binomial(n, r):
    """By its words: one product divided by another."""
    quotient, left = parted(product_of(u(n - 1 - at) for at in range(r)), product_of(u(at) for at in range(r)))
    assert not left and all(Fraction(a).denominator == 1 for a in quotient)
    return tuple(int(a) for a in quotient)


def half_of_signs(signs):
    """The half mat that signs tell, ( and ) the ends of a string above, | one that goes through; None if there is none."""
    begun, through_pegs, pairs = [], [], []
    for peg, sign in enumerate(signs):
        if sign == "(":
            begun.append(peg)
        elif sign == "|" and not begun:
            through_pegs.append(peg)
        elif sign == ")" and begun:
            pairs.append((begun.pop(), peg))
        else:
            return None
    if begun:
        return None
    n = len(signs)
    return mat_of(n, len(through_pegs), pairs + [(peg, n + at) for at, peg in enumerate(through_pegs)])


@lru_cache(None)
def half_mats(n, k):
    """All of them, ascending, as a tuple: whatever signs tell one."""
    told = (half_of_signs(signs) for signs in product("(|)", repeat=n) if signs.count("|") == k)
    return tuple(sorted(half for half in told if half))


def pairing(one, other):
    rings, mat = joined(flipped(one), other)
    return (0,) * rings + (1,) if not one[1] or through(mat) == one[1] else ()


def determinant(rows):
    """By expansion along one row after the other; what the last rows make of some columns is told once."""
    @lru_cache(None)
    def of_columns(columns):
        if not columns:
            return (1,)
        row, whole = rows[len(rows) - len(columns)], ()
        for at, column in enumerate(columns):
            minor = times(((-1) ** at,), of_columns(columns[:at] + columns[at + 1:]))
            whole = plus(whole, times(row[column], minor))
        return whole
    return of_columns(tuple(range(len(rows))))


def rank(rows, prime):
    """The rank by remainders, one row after the other: those that are left when the ones ahead are taken out."""
    kept = []
    for row in rows:
        left = [number % prime for number in row]
        for place, one in kept:
            left = [(a - left[place] * b) % prime for a, b in zip(left, one)]
        if any(left):
            place = next(at for at, number in enumerate(left) if number)
            turned_over = pow(left[place], -1, prime)
            kept.append((place, [number * turned_over % prime for number in left]))
    return len(kept)


def choices(n, word):
    """How often each (mat, power of A, rings) comes if at each crossing of a braid word each choice is made."""
    found = {}
    for straight_on in product((True, False), repeat=len(word)):
        power, hooks = 0, []
        for number, kept in zip(word, straight_on):
            power += 1 if (number > 0) == kept else -1
            if not kept:
                hooks.append(abs(number) - 1)
        rings, mat = value(n, hooks)
        found[mat, power, rings] = found.get((mat, power, rings), 0) + 1
    return found


def add_rings(found, power, rings, many):
    """Add so many times A to a power and the worth of rings, (-A ** 2 - A ** -2) ** rings, to a dict of powers."""
    for j in range(rings + 1):
        at = power + 2 * rings - 4 * j
        found[at] = found.get(at, 0) + many * (-1) ** rings * comb(rings, j)


def laurent(found):
    return tuple((power, found[power]) for power in sorted(found) if found[power])


def braid_sum(n, word):
    whole = {}
    for (mat, power, rings), many in choices(n, word).items():
        add_rings(whole.setdefault(mat, {}), power, rings, many)
    told = sorted((mat, laurent(found)) for mat, found in whole.items())
    return [(mat, one) for mat, one in told if one]


def closed_poly(n, word):
    turns = sum(1 if number > 0 else -1 for number in word)
    found = {}
    for (mat, power, rings), many in choices(n, word).items():
        add_rings(found, power - 3 * turns, rings + closed_rings(mat) - 1, many * (-1) ** (turns % 2))
    return laurent(found)


def moved_braid(word, at):
    """By the words of braids.py, one kind of move after the other."""
    row = list(word)
    if at + 1 < len(row):
        one, other = row[at], row[at + 1]
        if abs(one) - abs(other) not in (-1, 0, 1):
            row[at], row[at + 1] = other, one
            return tuple(row)
        if one + other == 0:
            del row[at:at + 2]
            return tuple(row)
    for sign in (1, -1):
        i, k, last = ([sign * number for number in row[at:at + 3]] + [0, 0, 0])[:3]
        if i > 0 and k > 0 and i == last and i - k in (-1, 1):
            row[at:at + 3] = [sign * k, sign * i, sign * k]
            return tuple(row)
    return None
