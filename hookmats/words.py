"""Words of hooks: their values, the shortest ones, and the moves between words of one mat."""

from hookmats.errors import InvalidHook, InvalidMoves
from hookmats.joins import check_square_mat, put_behind
from hookmats.mats import check_from, hook, straight


def _check_hooks(n, word):
    for index in word:
        if not 0 <= index < n - 1:
            raise InvalidHook(index)


def check_word(n, word):
    """Raise InvalidNumber for an n below 1, InvalidHook for the first hook that there is not."""
    check_from(n, 1)
    _check_hooks(n, word)


def _check_words(n, one, other):
    check_word(n, one)
    _check_hooks(n, other)


def with_hook(told, index):
    """A tuple (rings, mat) of a square mat, with a hook put behind."""
    rings, mat = told
    loose, whole = put_behind(mat, hook(mat[0], index))
    return rings + loose, whole


def _value(n, word):
    told = (0, straight(n))
    for index in word:
        told = with_hook(told, index)
    return told


def value_of(n, word):
    """The tuple (rings, mat) of the straight mat with all hooks of a word put behind."""
    check_word(n, word)
    return _value(n, word)


def alike(n, one, other):
    """True if two words have the same mat."""
    _check_words(n, one, other)
    return _value(n, one)[1] == _value(n, other)[1]


# The pegs of a square mat stand in columns, peg and n + peg in one. A hook has
# two strings that pass from its column to the next one; in a shortest word no
# string passes there twice. So its hooks are half as many as the steps from
# column to column that the strings of its mat make.


def _length(mat):
    n, _, mates = mat
    # Each string is met from both of its ends: a quarter is half of the steps.
    return sum([abs(peg % n - mate % n) for peg, mate in enumerate(mates)]) // 4


def _first_hooks(mat):
    """The hooks that a shortest word may begin with: those whose pegs above are joined."""
    n, _, mates = mat
    return [index for index in range(n - 1) if mates[index] == index + 1]


def _without_first(mat, index):
    """What is left of a mat if the first hook is taken off a shortest word that begins with it."""
    n, _, mates = mat
    # The hook came on the next string below its arc that passes between its
    # columns: seen from the left, the first peg round about joined to the right.
    for peg in list(range(index - 1, -1, -1)) + list(range(n, n + index + 1)):
        if mates[peg] % n > index:
            break
    left = list(mates)
    for end, mate in ((index, peg), (index + 1, mates[peg])):
        left[end] = mate
        left[mate] = end
    return (n, n, tuple(left))


def least_length(mat):
    """The length of the shortest words of a square mat."""
    check_square_mat(mat)
    return _length(mat)


def least_word(mat):
    """The first of the shortest words of a square mat, as tuples compare."""
    check_square_mat(mat)
    word, left = (), mat
    for _ in range(_length(mat)):
        index = _first_hooks(left)[0]
        word = word + (index,)
        left = _without_first(left, index)
    return word


def least_words(mat):
    """How many shortest words a square mat has."""
    check_square_mat(mat)
    # All that is left of the mat after as many hooks, with the number of ways to it.
    ways = {mat: 1}
    for _ in range(_length(mat)):
        further = {}
        for one, many in ways.items():
            for index in _first_hooks(one):
                left = _without_first(one, index)
                further[left] = further.get(left, 0) + many
        ways = further
    return sum(ways.values())


def _apart(word, at):
    """By how much the hooks at a place and the next one differ."""
    return abs(word[at] - word[at + 1])


def _is_step(word, step):
    kind, at = step
    if at < 0 or at + 1 >= len(word):
        return False
    if kind == "two":
        return _apart(word, at) == 0
    if kind == "far":
        return _apart(word, at) >= 2
    return kind == "neighbours" and at + 2 < len(word) and word[at] == word[at + 2] and _apart(word, at) == 1


def _stepped(word, step):
    """The word behind a step that can be made."""
    kind, at = step
    if kind == "two":
        return word[:at] + word[at + 1:]
    if kind == "neighbours":
        return word[:at] + word[at + 2:]
    return word[:at] + (word[at + 1], word[at]) + word[at + 2:]


def steps(n, word):
    """The ascending list of the moves (kind, at) that make a word not longer."""
    check_word(n, word)
    told = [(kind, at) for kind in ("far", "neighbours", "two") for at in range(len(word))]
    return [step for step in told if _is_step(word, step)]


def after_step(n, word, step):
    """The word behind a move that is one of its steps."""
    check_word(n, word)
    if not _is_step(word, step):
        raise InvalidMoves(step)
    return _stepped(word, step)


def moves_lead(n, word, moves, other):
    """True if moves, each one of the steps when it is made, lead from a word to another one."""
    _check_words(n, word, other)
    now = word
    for step in moves:
        if not _is_step(now, step):
            return False
        now = _stepped(now, step)
    return now == other


def _shortening(word):
    """Moves that make a word shorter which is not a shortest one of its mat."""
    # There are always two alike with at most one neighbour between them, and
    # none alike in the least width: what else stands between can be moved out.
    for width in range(1, len(word)):
        for at in range(len(word) - width):
            near = [place for place in range(at + 1, at + width) if abs(word[place] - word[at]) < 2]
            if word[at] == word[at + width] and len(near) < 2:
                return _brought_together(at, near, at + width)
    return []


def _brought_together(at, near, end):
    """Moves that bring the alike at two places together, around a near one if there is one, and use them."""
    if not near:
        return _moved_ahead(end, at + 1) + [("two", at)]
    middle = near[0]
    to_middle = [("far", place) for place in range(at, middle - 1)]
    return to_middle + _moved_ahead(end, middle + 1) + [("neighbours", middle - 1)]


def _moved_ahead(place, to):
    """Moves that bring the hook at a place ahead to another place."""
    return [("far", at) for at in range(place - 1, to - 1, -1)]


def _ordering(word, goal):
    """Moves that make a word another one with the same hooks, which exchanges can reach."""
    moves, now = [], word
    for to, index in enumerate(goal):
        place = now.index(index, to)
        moves = moves + _moved_ahead(place, to)
        now = now[:to] + (index,) + now[to:place] + now[place + 1:]
    return moves


def moves_between(n, word):
    """A list of moves that lead from a word to the least word of its mat."""
    check_word(n, word)
    goal = least_word(_value(n, word)[1])
    moves, now = [], word
    while len(now) > len(goal):
        shortening = _shortening(now)
        for step in shortening:
            now = _stepped(now, step)
        moves = moves + shortening
    return moves + _ordering(now, goal)
