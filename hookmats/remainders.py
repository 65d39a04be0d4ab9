"""Rows of remainders of a prime: their reduced form, and the rows that they make 0."""


def _inverse(number, prime):
    """The remainder by which a remainder, not 0, is to be multiplied for 1."""
    return [told for told in range(1, prime) if told * number % prime == 1][0]


def _with_one(row, place, prime):
    """The multiple of a row that has 1 at a place."""
    factor = _inverse(row[place], prime)
    return [factor * number % prime for number in row]


def _cleared(row, other, place, prime):
    """A row, less the multiple of another one, which has 1 at a place, that makes it 0 there."""
    factor = row[place]
    return [(number - factor * taken) % prime for number, taken in zip(row, other)]


def reduced(rows, prime):
    """The rows of which those told are sums of multiples, in their reduced form, none all 0."""
    left, done = [[number % prime for number in row] for row in rows], []
    for place in range(len(left[0]) if left else 0):
        having = [row for row in left if row[place]]
        if having:
            first = _with_one(having[0], place, prime)
            left = [row if not row[place] else _cleared(row, first, place, prime) for row in left]
            done = [row if not row[place] else _cleared(row, first, place, prime) for row in done]
            done.append(first)
    return done


def first_place(row):
    """The place of the first number of a row that is not 0."""
    return [place for place, number in enumerate(row) if number][0]


def nulls(rows, prime):
    """The rows, in their reduced form, of which all that make each of some rows 0 are sums of multiples."""
    done = {first_place(row): row for row in reduced(rows, prime)}
    places = list(range(len(rows[0])))
    found = []
    for free in places:
        if free not in done:
            found.append([-done[place][free] if place in done else int(place == free) for place in places])
    return reduced(found, prime)
