"""Two ways to join the same pegs in pairs, taken together: they come to loops."""


def _loop_from(one, other, start):
    loop, peg = [], start
    while True:
        loop.extend([peg, one[peg]])
        peg = other[one[peg]]
        if peg == start:
            return tuple(loop)


def loops(one, other):
    """The loops of two tuples of mates: each from its least peg on, along the one first; ascending."""
    found, passed = [], {}
    for start in range(len(one)):
        if start not in passed:
            loop = _loop_from(one, other, start)
            found.append(loop)
            for peg in loop:
                passed[peg] = True
    return found


def closed_loops(mat):
    """The loops of a square mat of which each peg above is joined with the one below it."""
    n, _, mates = mat
    return loops(mates, list(range(n, 2 * n)) + list(range(n)))
