"""An office's desk: forks of named mats and sums, each deed of which can be taken back."""

from hookmats.closings import closed_rings, trace
from hookmats.errors import DoubleName, NothingToUndo, UnknownName, Unreadable, WrongKind
from hookmats.joins import joined
from hookmats.mats import beside, check_mat, left_right, turned, upside_down
from hookmats.names import check_name, is_name
from hookmats.readers import read_mat, read_sum
from hookmats.sums import add, check_sum, flipped, multiply, sum_of
from hookmats.texts import show_mat, show_poly, show_sum

# For each deed the kind of what it makes, and the kinds of what it is made of.
DEEDS = {
    "joined": ("mat", "mat", "mat"),
    "upside": ("mat", "mat"),
    "side": ("mat", "mat"),
    "turned": ("mat", "mat"),
    "beside": ("mat", "mat", "mat"),
    "single": ("sum", "mat"),
    "add": ("sum", "sum", "sum"),
    "multiply": ("sum", "sum", "sum"),
    "flipped": ("sum", "sum"),
}
# How many names follow the other orders: those that are done, and those that are answered.
DONE = {"drop": 1, "branch": 1, "switch": 1, "undo": 0}
ANSWERED = {"show": 1, "loose": 2, "closed": 1, "trace": 1, "forks": 0, "names": 0, "same": 1}


def _made(verb, things):
    """What a deed makes of mats or sums of the right kinds."""
    one, other = things[0], things[-1]
    if verb == "joined":
        return joined(one, other)[1]
    if verb == "upside":
        return upside_down(one)
    if verb == "side":
        return left_right(one)
    if verb == "turned":
        return turned(one)
    if verb == "beside":
        return beside(one, other)
    if verb == "single":
        return sum_of(one)
    if verb == "add":
        return add(one, other)
    return multiply(one, other) if verb == "multiply" else flipped(one)


def _is_order(verb, names):
    """True if a verb, and what follows it, are an order that names alone follow."""
    if verb in DEEDS:
        many = len(DEEDS[verb])
    elif verb in DONE:
        many = DONE[verb]
    else:
        many = ANSWERED.get(verb, -1)
    return len(names) == many and all([is_name(name) for name in names])


def _read_placing(text):
    """The tuple (name, thing) of an order to put a mat or lay a sum, the thing being all that follows the name."""
    words = text.split(" ", 2)
    if len(words) < 3 or not is_name(words[1]):
        raise Unreadable(text)
    try:
        thing = read_mat(words[2]) if words[0] == "put" else read_sum(words[2])
    except Unreadable:
        raise Unreadable(text) from None
    return words[1], thing


def _listed(names):
    """Names, separated by a space, or none if there are none."""
    return " ".join(names) if names else "none"


class Desk:
    """A desk with one fork, main, which is open and has no names."""

    def __init__(self):
        # Names and forks are never changed, but exchanged for new ones: so what
        # the desk was ahead of each call can be kept as it is.
        self._fork = "main"
        self._forks = {"main": {}}
        self._past = []

    @property
    def fork(self):
        """The name of the open fork."""
        return self._fork

    def forks(self):
        """The ascending list of the names of the forks."""
        return sorted(self._forks)

    def names(self):
        """The ascending list of the names of the open fork."""
        return sorted(self._things())

    def __len__(self):
        return len(self._past)

    def _things(self):
        """For each name of the open fork the tuple (kind, mat or sum)."""
        return self._forks[self._fork]

    def _check_known(self, names):
        for name in names:
            if name not in self._things():
                raise UnknownName(name)

    def _named(self, names, kinds):
        """The list of the named mats and sums, which are to be of these kinds."""
        self._check_known(names)
        told = [self._things()[name] for name in names]
        for name, (kind, _), wanted in zip(names, told, kinds):
            if kind != wanted:
                raise WrongKind(name)
        return [thing for _, thing in told]

    def _become(self, fork, forks):
        """Let the desk be another one from now on, until this is taken back."""
        self._past.append((self._fork, self._forks))
        self._fork = fork
        self._forks = forks

    def _fill(self, fork, things):
        """Let a fork, also a new one, have these names; the open one stays open."""
        forks = dict(self._forks)
        forks[fork] = things
        self._become(self._fork, forks)

    def _place(self, name, kind, thing):
        things = dict(self._things())
        things[name] = (kind, thing)
        self._fill(self._fork, things)

    def put(self, name, mat):
        """Name a mat."""
        check_name(name)
        check_mat(mat)
        self._place(name, "mat", mat)

    def lay(self, name, told):
        """Name a sum."""
        check_name(name)
        check_sum(told)
        self._place(name, "sum", told)

    def make(self, name, deed):
        """Name what a deed makes of named mats or sums."""
        check_name(name)
        kinds = DEEDS[deed[0]]
        things = self._named(deed[1:], kinds[1:])
        self._place(name, kinds[0], _made(deed[0], things))

    def drop(self, name):
        """Take a name out."""
        self._check_known([name])
        things = self._things()
        self._fill(self._fork, {other: things[other] for other in things if other != name})

    def branch(self, name):
        """Make a new fork with the names of the open one, which stays open."""
        check_name(name)
        if name in self._forks:
            raise DoubleName(name)
        self._fill(name, self._things())

    def switch(self, name):
        """Open a fork."""
        if name not in self._forks:
            raise UnknownName(name)
        self._become(name, self._forks)

    def undo(self):
        """Take the last call back that has not been: the desk is as it was ahead of it."""
        if not self._past:
            raise NothingToUndo(0)
        self._fork, self._forks = self._past.pop()

    def mat_named(self, name):
        """The mat with a name."""
        return self._named([name], ["mat"])[0]

    def sum_named(self, name):
        """The sum with a name."""
        return self._named([name], ["sum"])[0]

    def same_as(self, name):
        """The ascending list of the other names of the same mat, or sum."""
        self._check_known([name])
        things = self._things()
        return sorted([other for other in things if other != name and things[other] == things[name]])

    def loose(self, one, other):
        """The rings that come loose if a named mat is put behind another one."""
        ahead, behind = self._named([one, other], ["mat", "mat"])
        return joined(ahead, behind)[0]

    def closed(self, name):
        """The rings that a named mat comes to if it is closed."""
        return closed_rings(self.mat_named(name))

    def trace_of(self, name):
        """The trace of a named sum."""
        return trace(self.sum_named(name))

    def order(self, text):
        """Do what a text says, and tell the answer."""
        words = text.split(" ")
        verb, names = words[0], words[1:]
        if verb in ("put", "lay"):
            self._place_read(verb, text)
            return "done"
        if not _is_order(verb, names):
            raise Unreadable(text)
        if verb in ANSWERED:
            return self._answer(verb, names)
        self._do(verb, names)
        return "done"

    def _place_read(self, verb, text):
        name, thing = _read_placing(text)
        if verb == "put":
            self.put(name, thing)
        else:
            self.lay(name, thing)

    def _do(self, verb, names):
        if verb in DEEDS:
            self.make(names[0], (verb,) + tuple(names[1:]))
        elif verb == "drop":
            self.drop(names[0])
        elif verb == "branch":
            self.branch(names[0])
        elif verb == "switch":
            self.switch(names[0])
        else:
            self.undo()

    def _answer(self, verb, names):
        if verb == "show":
            return self._shown(names[0])
        if verb == "loose":
            return str(self.loose(names[0], names[1]))
        if verb == "closed":
            return str(self.closed(names[0]))
        if verb == "trace":
            return show_poly(self.trace_of(names[0]))
        if verb == "same":
            return _listed(self.same_as(names[0]))
        return _listed(self.forks() if verb == "forks" else self.names())

    def _shown(self, name):
        self._check_known([name])
        kind, thing = self._things()[name]
        return show_mat(thing) if kind == "mat" else show_sum(thing)
