"""Books of named words, and the mats that their words, put behind one another, have."""

from hookmats.errors import DoubleName, InvalidMat, UnknownName
from hookmats.joins import put_behind
from hookmats.mats import check_from, check_mat
from hookmats.names import check_name
from hookmats.words import value_of


def _check_names(names):
    for name in names:
        check_name(name)
    for at, name in enumerate(names):
        if name in names[:at]:
            raise DoubleName(name)


class Book:
    """A book of named words of n, which never changes."""

    def __init__(self, n, entries):
        check_from(n, 1)
        _check_names([name for name, _ in entries])
        self._n = n
        self._entries = list(entries)
        self._words = {name: word for name, word in entries}
        self._mats = {name: value_of(n, word)[1] for name, word in entries}

    @property
    def n(self):
        """The n of all words."""
        return self._n

    @property
    def entries(self):
        """The list of the tuples (name, word), in their order."""
        return list(self._entries)

    def __len__(self):
        return len(self._entries)

    def _check_known(self, name):
        if name not in self._words:
            raise UnknownName(name)

    def word_of(self, name):
        """The word with a name."""
        self._check_known(name)
        return self._words[name]

    def mat_of(self, name):
        """The mat of the value of the word with a name."""
        self._check_known(name)
        return self._mats[name]

    def alike_names(self):
        """The ascending list of the ascending lists of all names whose words have one mat."""
        found = {}
        for name in sorted(self._mats):
            found.setdefault(self._mats[name], []).append(name)
        return sorted(found.values())

    def _first_lists(self):
        """For each mat that lists of names have the first such list, the shortest ones being first."""
        # What stands ahead of the last name in such a list is the first list of its
        # own mat. So lists of one length, gone through as they compare and each
        # longer by each name, are found as they compare.
        names, found = sorted(self._mats), {}
        for name in names:
            found.setdefault(self._mats[name], [name])
        newest = list(found)
        while newest:
            further = []
            for mat in newest:
                for name in names:
                    whole = put_behind(mat, self._mats[name])[1]
                    if whole not in found:
                        found[whole] = found[mat] + [name]
                        further.append(whole)
            newest = further
        return found

    def reached(self):
        """The ascending list of all mats that lists of names, at least one name, have."""
        return sorted(self._first_lists())

    def shortest(self, mat):
        """The first of the shortest lists of names whose words, put behind one another, have a mat, or None."""
        check_mat(mat)
        if mat[:2] != (self._n, self._n):
            raise InvalidMat(mat)
        return self._first_lists().get(mat)
