"""Slow, plain ways to tell what the document says, apart from the package's own."""

from fractions import Fraction
from functools import lru_cache
from itertools import combinations, product, zip_longest
from math import comb, gcd, lcm


def round_about(n, m):
    return [*range(n), *reversed(range(n, n + m))]


def cross(n, m, one, other):
    """By the words of [4]: just one peg of the one stands, round about, between those of the other."""
    place = {peg: at for at, peg in enumerate(round_about(n, m))}
    low, high = sorted(place[peg] for peg in other)
    return sum(low < place[peg] < high for peg in one) == 1


def pairs_of(mates):
    return [(p, q) for p, q in enumerate(mates) if p < q]


def is_mat(told):
    n, m, mates = told
    if min(n, m) < 0 or n + m < 2 or (n + m) % 2 or len(mates) != n + m:
        return False
    for peg, mate in enumerate(mates):
        if mate not in range(n + m) or mate == peg or mates[mate] != peg:
            return False
    pairs = pairs_of(mates)
    return not any(cross(n, m, one, other) for one in pairs for other in pairs if one != other)


@lru_cache(None)
def matchings(pegs):
    """All ways to pair pegs, crossing or not, each a tuple of pairs."""
    if not pegs:
        return ((),)
    found = []
    for mate in pegs[1:]:
        left = tuple(peg for peg in pegs[1:] if peg != mate)
        found.extend(((pegs[0], mate), *rest) for rest in matchings(left))
    return tuple(found)


def mat_of(n, m, pairs):
    mates = {}
    for p, q in pairs:
        mates[p], mates[q] = q, p
    return (n, m, tuple(mates[peg] for peg in range(n + m)))


@lru_cache(None)
def all_mats(n, m):
    """The mats of n and m, ascending, as a tuple: those of all pairings in which no two cross."""
    if n + m == 0 or (n + m) % 2:
        return ()
    return tuple(sorted(
        mat_of(n, m, pairs)
        for pairs in matchings(tuple(range(n + m)))
        if not any(cross(n, m, one, other) for one in pairs for other in pairs if one != other)
    ))


def shapes(pegs):
    """All (n, m) with so many pegs together."""
    return [(n, pegs - n) for n in range(pegs + 1)]


def mats_to(pegs):
    """All mats of at most so many pegs."""
    return [mat for many in range(2, pegs + 1, 2) for n, m in shapes(many) for mat in all_mats(n, m)]


def squares_to(n):
    return [mat for size in range(1, n + 1) for mat in all_mats(size, size)]


def joined(one, other):
    """Put behind by growing lots of places that hang together."""
    n, m = one[0], one[1]
    k = other[1]
    name_one = [("top", i) for i in range(n)] + [("middle", i) for i in range(m)]
    name_other = [("middle", i) for i in range(m)] + [("low", i) for i in range(k)]
    lots = {name: {name} for name in name_one + name_other}
    for names, mat in ((name_one, one), (name_other, other)):
        for p, q in pairs_of(mat[2]):
            lot = lots[names[p]] | lots[names[q]]
            for name in lot:
                lots[name] = lot
    outside = [("top", i) for i in range(n)] + [("low", i) for i in range(k)]
    mates = []
    for name in outside:
        mates.append(next(at for at, end in enumerate(outside) if end != name and end in lots[name]))
    loose = {frozenset(lot) for lot in lots.values() if not any(end in lot for end in outside)}
    return len(loose), (n, k, tuple(mates))


def power(mat, times):
    rings, result = 0, mat
    for _ in range(times - 1):
        loose, result = joined(result, mat)
        rings += loose
    return rings, result


def straight(n):
    return mat_of(n, n, [(i, n + i) for i in range(n)])


def hook(n, i):
    pairs = [(j, n + j) for j in range(n) if j not in (i, i + 1)]
    return mat_of(n, n, pairs + [(i, i + 1), (n + i, n + i + 1)])


@lru_cache(None)
def with_hook(mat, i):
    return joined(mat, hook(mat[0], i))


def value(n, word):
    """By the words of [6]: all hooks of a word, put behind the straight mat one by one."""
    rings, mat = 0, straight(n)
    for i in word:
        loose, mat = with_hook(mat, i)
        rings += loose
    return rings, mat


@lru_cache(None)
def shortest_words(n):
    """For each square mat of n all its shortest words, ascending, searched length by length.

    What stands ahead of a shortest word's last hook is a shortest word itself.
    """
    found = {straight(n): [()]}
    level = dict(found)
    while level:
        further = {}
        for mat, words in level.items():
            for i in range(n - 1):
                longer = with_hook(mat, i)[1]
                if longer not in found:
                    further.setdefault(longer, []).extend((*word, i) for word in words)
        found.update(further)
        level = further
    return {mat: sorted(words) for mat, words in found.items()}


def steps(word):
    """Place by place, all moves that make a word not longer."""
    found = []
    for at in range(len(word)):
        ahead = word[at:]
        if len(ahead) > 1 and ahead[0] == ahead[1]:
            found.append(("two", at))
        if len(ahead) > 1 and ahead[1] not in (ahead[0] - 1, ahead[0], ahead[0] + 1):
            found.append(("far", at))
        if len(ahead) > 2 and ahead[2] == ahead[0] and ahead[1] in (ahead[0] - 1, ahead[0] + 1):
            found.append(("neighbours", at))
    return sorted(found)


def after_step(word, step):
    kind, at = step
    row = list(word)
    if kind == "two":
        del row[at]
    elif kind == "neighbours":
        del row[at + 1:at + 3]
    else:
        row[at], row[at + 1] = row[at + 1], row[at]
    return tuple(row)


def moved(n, word):
    """All (word, rings more) that one move of [9] makes of a word, also longer ones."""
    found = [(after_step(word, step), -1 if step[0] == "two" else 0) for step in steps(word)]
    for at, i in enumerate(word):
        found.append((word[:at] + (i, i) + word[at + 1:], 1))
        for near in (i - 1, i + 1):
            if 0 <= near < n - 1:
                found.append((word[:at] + (i, near, i) + word[at + 1:], 0))
    return found


def half_of(mat):
    """What the upper half tells: the strings above, and which pegs have one that goes through."""
    n, _, mates = mat
    return tuple(mate if mate < n else None for mate in mates[:n])


def flipped(mat):
    n, m, mates = mat
    place = [peg + m if peg < n else peg - n for peg in range(n + m)]
    return mat_of(m, n, [(place[p], place[q]) for p, q in pairs_of(mates)])


def through(mat):
    return sum(p < mat[0] <= q for p, q in pairs_of(mat[2]))


def trimmed(coefficients):
    """The polynomial of coefficients, integers or fractions."""
    row = list(coefficients)
    while row and row[-1] == 0:
        row.pop()
    return tuple(row)


def plus(one, other):
    return trimmed(a + b for a, b in zip_longest(one, other, fillvalue=0))


def times(one, other):
    powers = {}
    for i, a in enumerate(one):
        for j, b in enumerate(other):
            powers[i + j] = powers.get(i + j, 0) + a * b
    return trimmed(powers.get(power, 0) for power in range(len(one) + len(other)))


def value_at(poly, number):
    return sum(coefficient * number ** power for power, coefficient in enumerate(poly))


def parted(one, other):
    """The quotient and what is left, with fractions."""
    left, quotient = [Fraction(a) for a in one], {}
    while len(left) >= len(other):
        ahead = len(left) - len(other)
        quotient[ahead] = left[-1] / other[-1]
        left = list(plus(left, times((0,) * ahead + (-quotient[ahead],), other)))
    return trimmed(quotient.get(power, 0) for power in range(len(one))), tuple(left)


def primitive(poly):
    """The multiple of a polynomial with fractions that has integers without a common factor, the last above 0."""
    many = lcm(*(Fraction(a).denominator for a in poly))
    whole = [int(a * many) for a in poly]
    shared = gcd(*whole) if not whole or whole[-1] > 0 else -gcd(*whole)
    return tuple(a // shared for a in whole)


def common(one, other):
    """By fractions, as Euclid does; then, as for integers alone, what both contents share."""
    if not one or not other:
        told = one or other
        return told if not told or told[-1] > 0 else tuple(-a for a in told)
    shared = gcd(gcd(*one), gcd(*other))
    while other:
        one, other = other, parted(one, other)[1]
    return tuple(shared * a for a in primitive(one))


def nothing_common(one, other):
    """True if two polynomials have no common factor but 1 and -1.

    What both have in common they have by remainders of a prime, too, if this
    does not divide a last coefficient: mostly this is enough, and far quicker.
    """
    prime = 2 ** 61 - 1
    if gcd(*one, *other) != 1:
        return False
    if one and one[-1] % prime:
        ahead, behind = one, trimmed(a % prime for a in other)
        while behind:
            ahead, behind = behind, rest_by(ahead, behind, prime)
        if len(ahead) == 1:
            return True
    return common(one, other) == (1,)


def rest_by(one, other, prime):
    """What is left by remainders of a prime."""
    row, turned_over = [a % prime for a in one], pow(other[-1], -1, prime)
    while len(row) >= len(other):
        factor, ahead = row[-1] * turned_over, len(row) - len(other)
        row = list(trimmed((a - factor * b) % prime for a, b in zip(row, (0,) * ahead + other)))
    return tuple(row)


def add_to(found, mat, poly):
    found[mat] = plus(found.get(mat, ()), poly)


def sum_of_dict(found):
    return tuple(sorted((mat, poly) for mat, poly in found.items() if poly))


@lru_cache(None)
def joined_once(one, other):
    return joined(one, other)


def multiply(one, other):
    """By the words of [8]: each mat of the one with each of the other."""
    found = {}
    for mat, poly in one:
        for behind, factor in other:
            rings, whole = joined_once(mat, behind)
            add_to(found, whole, times(times(poly, factor), (0,) * rings + (1,)))
    return sum_of_dict(found)


def closed_rings(mat):
    """By the words of [10]: lots of pegs that hang together if each above is joined with the one below it."""
    n = mat[0]
    lots = {peg: {peg} for peg in range(2 * n)}
    for p, q in pairs_of(mat[2]) + [(peg, peg + n) for peg in range(n)]:
        lot = lots[p] | lots[q]
        for peg in lot:
            lots[peg] = lot
    return len({frozenset(lot) for lot in lots.values()})


def u(n):
    """U n by its closed form, not step by step: U n at q + 1 / q is the sum of q to the powers n, n - 2 .. -n."""
    row = [0] * (n + 1)
    for j in range(n // 2 + 1):
        row[n - 2 * j] = (-1) ** j * comb(n - j, j)
    return tuple(row)


def product_of(polys):
    whole = (1,)
    for poly in polys:
        whole = times(whole, poly)
    return whole


def binomial(n, r):
    """By its words: one product divided by another."""
    quotient, left = parted(product_of(u(n - 1 - at) for at in range(r)), product_of(u(at) for at in range(r)))
    assert not left and all(Fraction(a).denominator == 1 for a in quotient)
    return tuple(int(a) for a in quotient)


def half_of_signs(signs):
    """The half mat that signs tell, ( and ) the ends of a string above, | one that goes through; None if there is none."""
    begun, through_pegs, pairs = [], [], []
    for peg, sign in enumerate(signs):
        if sign == "(":
            begun.append(peg)
        elif sign == "|" and not begun:
            through_pegs.append(peg)
        elif sign == ")" and begun:
            pairs.append((begun.pop(), peg))
        else:
            return None
    if begun:
        return None
    n = len(signs)
    return mat_of(n, len(through_pegs), pairs + [(peg, n + at) for at, peg in enumerate(through_pegs)])


@lru_cache(None)
def half_mats(n, k):
    """All of them, ascending, as a tuple: whatever signs tell one."""
    told = (half_of_signs(signs) for signs in product("(|)", repeat=n) if signs.count("|") == k)
    return tuple(sorted(half for half in told if half))


def pairing(one, other):
    rings, mat = joined(flipped(one), other)
    return (0,) * rings + (1,) if not one[1] or through(mat) == one[1] else ()


def determinant(rows):
    """By expansion along one row after the other; what the last rows make of some columns is told once."""
    @lru_cache(None)
    def of_columns(columns):
        if not columns:
            return (1,)
        row, whole = rows[len(rows) - len(columns)], ()
        for at, column in enumerate(columns):
            minor = times(((-1) ** at,), of_columns(columns[:at] + columns[at + 1:]))
            whole = plus(whole, times(row[column], minor))
        return whole
    return of_columns(tuple(range(len(rows))))


def rank(rows, prime):
    """The rank by remainders, one row after the other: those that are left when the ones ahead are taken out."""
    kept = []
    for row in rows:
        left = [number % prime for number in row]
        for place, one in kept:
            left = [(a - left[place] * b) % prime for a, b in zip(left, one)]
        if any(left):
            place = next(at for at, number in enumerate(left) if number)
            turned_over = pow(left[place], -1, prime)
            kept.append((place, [number * turned_over % prime for number in left]))
    return len(kept)


def choices(n, word):
    """How often each (mat, power of A, rings) comes if at each crossing of a braid word each choice is made."""
    found = {}
    for straight_on in product((True, False), repeat=len(word)):
        power, hooks = 0, []
        for number, kept in zip(word, straight_on):
            power += 1 if (number > 0) == kept else -1
            if not kept:
                hooks.append(abs(number) - 1)
        rings, mat = value(n, hooks)
        found[mat, power, rings] = found.get((mat, power, rings), 0) + 1
    return found


def add_rings(found, power, rings, many):
    """Add so many times A to a power and the worth of rings, (-A ** 2 - A ** -2) ** rings, to a dict of powers."""
    for j in range(rings + 1):
        at = power + 2 * rings - 4 * j
        found[at] = found.get(at, 0) + many * (-1) ** rings * comb(rings, j)


def laurent(found):
    return tuple((power, found[power]) for power in sorted(found) if found[power])


def braid_sum(n, word):
    whole = {}
    for (mat, power, rings), many in choices(n, word).items():
        add_rings(whole.setdefault(mat, {}), power, rings, many)
    told = sorted((mat, laurent(found)) for mat, found in whole.items())
    return [(mat, one) for mat, one in told if one]


def closed_poly(n, word):
    turns = sum(1 if number > 0 else -1 for number in word)
    found = {}
    for (mat, power, rings), many in choices(n, word).items():
        add_rings(found, power - 3 * turns, rings + closed_rings(mat) - 1, many * (-1) ** (turns % 2))
    return laurent(found)


def moved_braid(word, at):
    """By the words of braids.py, one kind of move after the other."""
    row = list(word)
    if at + 1 < len(row):
        one, other = row[at], row[at + 1]
        if abs(one) - abs(other) not in (-1, 0, 1):
            row[at], row[at + 1] = other, one
            return tuple(row)
        if one + other == 0:
            del row[at:at + 2]
            return tuple(row)
    for sign in (1, -1):
        i, k, last = ([sign * number for number in row[at:at + 3]] + [0, 0, 0])[:3]
        if i > 0 and k > 0 and i == last and i - k in (-1, 1):
            row[at:at + 3] = [sign * k, sign * i, sign * k]
            return tuple(row)
    return None


def partly_closed(mat, many):
    """By the words of [10]: lots of pegs that hang together, two of those that are left in one or none."""
    n = mat[0]
    lots = {peg: {peg} for peg in range(2 * n)}
    for p, q in pairs_of(mat[2]) + [(peg, peg + n) for peg in range(n - many, n)]:
        lot = lots[p] | lots[q]
        for peg in lot:
            lots[peg] = lot
    left = [peg for peg in range(2 * n) if peg % n < n - many]
    loose = {frozenset(lot) for lot in lots.values() if not lot & set(left)}
    ends = [next(end for end in left if end != peg and end in lots[peg]) for peg in left]
    return len(loose), (n - many, n - many, tuple(left.index(end) for end in ends))


def laid(mat, above, below):
    """The mat of the same strings, its pegs laid anew: which ones stand above, and which below, from the left."""
    row = above + below
    return (len(above), len(below), tuple(row.index(mat[2][peg]) for peg in row))


def bent(mat, many):
    """By the words of closings.py."""
    n, m, _ = mat
    below = list(range(n, n + m))
    up = below[m - many:]
    return laid(mat, list(range(n)) + up[::-1], below[:m - many])


def unbent(arch, n):
    pegs = list(range(arch[0]))
    return laid(arch, pegs[:n], pegs[n:][::-1])


def closed_power(mat, times):
    """Put behind one by one until a mat comes again; then whole rounds at once."""
    seen, rings, now, at = {}, 0, mat, 1
    while at < times:
        if now in seen:
            ahead, had = seen[now]
            rounds = (times - at) // (at - ahead)
            rings, at = rings + rounds * (rings - had), at + rounds * (at - ahead)
            seen = {}
            continue
        seen[now] = at, rings
        loose, now = joined_once(now, mat)
        rings, at = rings + loose, at + 1
    return rings + closed_rings(now)


def trace(told):
    whole = ()
    for mat, poly in told:
        whole = plus(whole, times(poly, (0,) * closed_rings(mat) + (1,)))
    return whole


def rounds(one, other):
    """By the words of rounds.py: a walk from each least peg, along the one arch and the other by turns."""
    left, found = set(range(one[0])), []
    while left:
        path = [min(left)]
        while True:
            arch = one if len(path) % 2 else other
            peg = arch[2][path[-1]]
            if peg == path[0]:
                break
            path.append(peg)
        found.append(tuple(path))
        left -= set(path)
    return sorted(found)


def turned_arch(arch, steps):
    """One step after the other, each string by itself; as many steps as there are pegs are none."""
    pegs, pairs = arch[0], pairs_of(arch[2])
    for _ in range(steps % pegs):
        pairs = [((p + 1) % pegs, (q + 1) % pegs) for p, q in pairs]
    return mat_of(pegs, 0, pairs)


def cross_parts(one, other):
    """By the words of [12], whichever of the two comes first."""
    for told, with_ in ((one, other), (other, one)):
        for a, c in combinations(sorted(told), 2):
            if any(a < b < c for b in with_) and any(d > c for d in with_):
                return True
    return False


def is_parts(told):
    numbers = [number for part in told for number in part]
    if not told or () in told or sorted(numbers) != list(range(len(numbers))):
        return False
    if list(told) != sorted(told) or any(list(part) != sorted(part) for part in told):
        return False
    return not any(cross_parts(one, other) for one, other in combinations(told, 2))


@lru_cache(None)
def all_partings(n):
    """All ways to part the numbers below n, crossing or not, as lists of tuples."""
    if n == 0:
        return ([],)
    found = []
    for told in all_partings(n - 1):
        found.append(told + [(n - 1,)])
        for at, part in enumerate(told):
            found.append(told[:at] + [part + (n - 1,)] + told[at + 1:])
    return tuple(found)


@lru_cache(None)
def all_parts(n):
    told = (tuple(sorted(parts)) for parts in all_partings(n))
    return tuple(sorted(parts for parts in told if is_parts(parts)))


def is_finer(one, other):
    return all(any(set(part) <= set(whole) for whole in other) for part in one)


@lru_cache(None)
def coarser(n):
    """For each parts of n those that it is finer than, itself among them."""
    return {one: frozenset(other for other in all_parts(n) if is_finer(one, other)) for one in all_parts(n)}


@lru_cache(None)
def finer(n):
    return {one: frozenset(other for other in all_parts(n) if one in coarser(n)[other]) for one in all_parts(n)}


def meet(n, one, other):
    """By a search: of those finer than both the one that all others are finer than."""
    both = finer(n)[one] & finer(n)[other]
    return next(told for told in both if both <= finer(n)[told])


def least_over(n, one, other):
    both = coarser(n)[one] & coarser(n)[other]
    return next(told for told in both if both <= coarser(n)[told])


def interleaved(told, other):
    """True if none cross, the numbers of the other one put between those told."""
    one = [tuple(2 * number for number in part) for part in told]
    between = [tuple(2 * number + 1 for number in part) for part in other]
    return not any(cross_parts(a, b) for a in one for b in between)


def turn(told):
    """By a search over all parts: those with the fewest tuples."""
    n = sum(map(len, told))
    fitting = [other for other in all_parts(n) if interleaved(told, other)]
    fewest = min(map(len, fitting))
    told, = (other for other in fitting if len(other) == fewest)
    return told


def turn_by_pairs(told):
    """Two are together if no tuple has some numbers between them and others not."""
    n = sum(map(len, told))
    found = []
    for j in range(n):
        for part in found:
            inside = set(range(part[-1] + 1, j + 1))
            if not any(set(one) & inside and set(one) - inside for one in told):
                part.append(j)
                break
        else:
            found.append([j])
    return tuple(tuple(part) for part in found)


def chains(n, many):
    """List by list, the last parts told."""
    row = {told: 1 for told in all_parts(n)}
    for _ in range(many - 1):
        row = {told: sum(row[one] for one in finer(n)[told]) for told in row}
    return sum(row.values())


def trees(n, branches):
    """How many trees have n forks, each with so many branches: term by term, each told by those ahead."""
    row = [1]
    for size in range(1, n + 1):
        whole = [1] + [0] * (size - 1)
        for _ in range(branches):
            whole = [sum(whole[i] * row[at - i] for i in range(at + 1)) for at in range(size)]
        row.append(whole[size - 1])
    return row[n]


@lru_cache(None)
def how_many_of(lengths, waiting=0):
    """Number by number: it begins a tuple, or goes on with the last one begun that is not whole."""
    if not lengths:
        return 1
    many = how_many_of(lengths, waiting - 1) if waiting else 0
    for length in set(lengths):
        at = lengths.index(length)
        many += how_many_of(lengths[:at] + lengths[at + 1:], waiting + length - 1)
    return many


# Faces: round about, peg by peg, stand the gaps: that ahead of place t is at t.


def gap_places(mat):
    """For each gap above, and each below, the place round about."""
    n, m, _ = mat
    return list(range(n + 1)), [n + m - gap for gap in range(m + 1)]


def parting(mat, here, there):
    """The strings of which just one end stands between two places of gaps."""
    place = {peg: at for at, peg in enumerate(round_about(*mat[:2]))}
    low, high = sorted((here, there))
    return [(p, q) for p, q in pairs_of(mat[2]) if (low <= place[p] < high) != (low <= place[q] < high)]


def rooms(mat):
    """Gaps that no string parts are in one room."""
    above, below = gap_places(mat)
    return sorted({
        (tuple(gap for gap, at in enumerate(above) if not parting(mat, here, at)),
         tuple(gap for gap, at in enumerate(below) if not parting(mat, here, at)))
        for here in above + below})


def place_of_room(mat, room):
    above, below = gap_places(mat)
    return above[room[0][0]] if room[0] else below[room[1][0]]


def sides(mat):
    """Two rooms are beside a string if it alone parts them."""
    told = [place_of_room(mat, room) for room in rooms(mat)]
    found = []
    for a, b in combinations(range(len(told)), 2):
        strings = parting(mat, told[a], told[b])
        if len(strings) == 1:
            found.append(strings[0] + (a, b))
    return sorted(found)


def between(mat, one, other):
    """From room to room, as far as there are new ones."""
    ways, doors = {one: []}, sides(mat)
    while other not in ways:
        for p, q, a, b in doors:
            for here, there in ((a, b), (b, a)):
                if here in ways and there not in ways:
                    ways[there] = ways[here] + [(p, q)]
    return ways[other]


def cut_string(mat, peg):
    left = [other for other in range(mat[0] + mat[1]) if other not in (peg, mat[2][peg])]
    return laid(mat, [other for other in left if other < mat[0]], [other for other in left if other >= mat[0]])


@lru_cache(None)
def walks(n):
    """All walks of n, ascending: of all rows of steps those of which no beginning is below 0."""
    return tuple(steps for steps in product((-1, 1), repeat=n) if is_walk(steps))


def is_walk(told):
    return all(step in (-1, 1) for step in told) and not any(sum(told[:at]) < 0 for at in range(len(told) + 1))


@lru_cache(None)
def how_many_walks(n):
    """For each end how many walks of n there are, step by step."""
    row = {0: 1}
    for _ in range(n):
        further = {}
        for now, many in row.items():
            for end in (now - 1, now + 1):
                if end >= 0:
                    further[end] = further.get(end, 0) + many
        row = further
    return row


def walk_of(half):
    """By the words of [13]."""
    n, _, mates = half
    return tuple(1 if mates[peg] >= n or mates[peg] > peg else -1 for peg in range(n))


def upper_walk(mat):
    """The walk of the upper half, () if there are no pegs above."""
    return walk_of(mat)


@lru_cache(None)
def mats_by_walks(n, m):
    """For each pair of walks the mats whose halves have them."""
    found = {}
    for mat in all_mats(n, m):
        found.setdefault((upper_walk(mat), upper_walk(flipped(mat))), []).append(mat)
    return found


def u_at(many, number, prime):
    """U 0 to U many less 1 by remainders, each by its closed form."""
    return [value_at(u(n), number) % prime for n in range(many)]


def barred(n, number, prime):
    """By the words of [9], with q and 1 / q adding up to w: integers a + b q, multiplied with q ** 2 being w q - 1.

    The binomials, times a power of q, which is nowhere 0, are sums of the two above them, as Gauss told.
    """
    def multiplied(one, other):
        (a, b), (c, d) = one, other
        return ((a * c - b * d) % prime, (a * d + b * c + b * d * number) % prime)

    square = multiplied((0, 1), (0, 1))
    powers, row, found = [(1, 0)], [(1, 0)], []
    for size in range(1, n + 1):
        powers.append(multiplied(powers[-1], square))
        padded = [(0, 0)] + row + [(0, 0)]
        row = []
        for r in range(size + 1):
            (a, b), (c, d) = padded[r], multiplied(powers[r], padded[r + 1])
            row.append(((a + c) % prime, (b + d) % prime))
        if (0, 0) in row:
            found.append(size)
    return found


def ranks(n, number, prime):
    found = []
    for k in range(n + 1):
        if (n - k) % 2 == 0:
            halves = half_mats(n, k)
            rows = [[value_at(pairing(one, other), number) for other in halves] for one in halves]
            found.append((k, rank(rows, prime)))
    return found


def closed_rank(n, number, prime):
    rows = []
    for one in all_mats(n, n):
        told = [joined_once(one, flipped(other)) for other in all_mats(n, n)]
        rows.append([number ** (rings + closed_rings(mat)) for rings, mat in told])
    return rank(rows, prime)


def some_mat(n, m, chance):
    """A mat of n and m, drawn: round about each peg begins a string or ends the last one begun."""
    around, begun, pairs = round_about(n, m), [], []
    for at, peg in enumerate(around):
        left = len(around) - at
        if begun and (len(begun) == left or chance.random() < 0.5):
            pairs.append((begun.pop(), peg))
        else:
            begun.append(peg)
    return mat_of(n, m, pairs)


def some_walk(n, chance):
    walk = ()
    for _ in range(n):
        walk += (chance.choice((1, -1)) if sum(walk) else 1,)
    return walk
