"""The rooms between the strings of a mat, and the ways from room to room."""

from hookmats.errors import InvalidPeg, InvalidRoom, InvalidString
from hookmats.mats import check_mat, check_within, mat_of_pairs, round_about, strings


def _string_of(mat, peg):
    mate = mat[2][peg]
    return min(peg, mate), max(peg, mate)


# Round about, each string is met twice: first it leads into a room that was not
# met before, then back. So the rooms are numbered as they are met, 0 being the
# one at gap 0 above; each other one has a door: the string that first led into
# it, and the number of the room outside of it.


def _round(mat):
    """The tuple (numbers, doors): the number of the room at each gap round about, and the doors."""
    now, numbers, doors = 0, [0], [((), 0)]
    for peg in round_about(mat[0], mat[1]):
        string, outside = doors[now]
        if peg in string:
            now = outside
        else:
            doors.append((_string_of(mat, peg), now))
            now = len(doors) - 1
        numbers.append(now)
    return numbers, doors


def _places(row, number):
    return tuple([place for place, other in enumerate(row) if other == number])


def _rows_of_gaps(mat):
    """The numbers of the rooms at the gaps above, and at those below, both from the left."""
    n, m, _ = mat
    numbers = _round(mat)[0]
    return numbers[:n + 1], [numbers[n + m - gap] for gap in range(m + 1)]


def _rooms(mat):
    """The rooms in the order of their numbers."""
    above, below = _rows_of_gaps(mat)
    return [(_places(above, number), _places(below, number)) for number in range(max(above + below) + 1)]


def _order(mat):
    """The numbers of the rooms in ascending order of these."""
    told = _rooms(mat)
    return [told.index(room) for room in sorted(told)]


def rooms(mat):
    """The ascending list of the rooms of a mat."""
    check_mat(mat)
    return sorted(_rooms(mat))


def room_at(mat, below, gap):
    """The index of the room at a gap, below if that is True, else above."""
    check_mat(mat)
    check_within(gap, 0, mat[1] if below else mat[0])
    row = _rows_of_gaps(mat)[1 if below else 0]
    return _order(mat).index(row[gap])


def colours(mat):
    """For each room 0 or 1: 0 at gap 0 above, unlike ones on both sides of a string."""
    check_mat(mat)
    row = []
    for _, outside in _round(mat)[1]:
        row.append(1 - row[outside] if row else 0)
    return [row[number] for number in _order(mat)]


def sides(mat):
    """The ascending list of the tuples (p, q, a, b) of the strings and the rooms beside them."""
    check_mat(mat)
    order, found = _order(mat), []
    for number, door in enumerate(_round(mat)[1]):
        if number:
            one, other = order.index(number), order.index(door[1])
            found.append(door[0] + (min(one, other), max(one, other)))
    return sorted(found)


def _way_out(doors, number):
    """The strings from the room with a number to the one at gap 0 above."""
    way = []
    while number:
        string, number = doors[number]
        way.append(string)
    return way


def between(mat, one, other):
    """The list of the strings that one must cross from one room to another, in their order."""
    check_mat(mat)
    order, doors = _order(mat), _round(mat)[1]
    for index in (one, other):
        if not 0 <= index < len(order):
            raise InvalidRoom(index)
    # What both ways out cross, neither needs to.
    there, back = _way_out(doors, order[one]), _way_out(doors, order[other])
    ahead = [string for string in there if string not in back]
    return ahead + [string for string in reversed(back) if string not in there]


def cut_string(mat, peg):
    """The mat without the string of a peg, the other pegs renumbered."""
    check_mat(mat)
    n, m, _ = mat
    if not 0 <= peg < n + m:
        raise InvalidPeg(peg)
    cut = _string_of(mat, peg)
    if n + m == 2:
        raise InvalidString(cut)
    kept = [other for other in range(n + m) if other not in cut]
    above = len([other for other in kept if other < n])
    pairs = [(kept.index(p), kept.index(q)) for p, q in strings(mat) if p != cut[0]]
    return mat_of_pairs(above, len(kept) - above, pairs)
