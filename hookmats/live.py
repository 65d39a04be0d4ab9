"""A live mat: hooks are put behind it, and taken back."""

from hookmats.closings import closed_rings
from hookmats.errors import NothingToUndo
from hookmats.mats import straight, through
from hookmats.words import check_word, least_word, with_hook


class Live:
    """A mat of n, at first straight, that hooks are put behind."""

    def __init__(self, n):
        # What came of each beginning of the word: so the last hook can be taken back.
        self._came = [(0, straight(n))]
        self._n = n
        self._hooks = []

    @property
    def mat(self):
        """The mat that came of the hooks that stand."""
        return self._came[-1][1]

    @property
    def rings(self):
        """How many rings came loose by the hooks that stand."""
        return self._came[-1][0]

    @property
    def word(self):
        """The hooks that stand."""
        return tuple(self._hooks)

    def __len__(self):
        return len(self._hooks)

    def put(self, hook):
        """Put a hook behind."""
        self.put_all((hook,))

    def put_all(self, word):
        """Put all hooks of a word behind, from the left."""
        check_word(self._n, word)
        for index in word:
            self._came.append(with_hook(self._came[-1], index))
            self._hooks.append(index)

    def undo(self):
        """Take the last hook back."""
        if not self._hooks:
            raise NothingToUndo(0)
        self._came.pop()
        self._hooks.pop()

    def closed(self):
        """The rings of the mat, closed, and the loose ones together."""
        rings, mat = self._came[-1]
        return rings + closed_rings(mat)

    def through_now(self):
        """How many strings go through."""
        return through(self._came[-1][1])

    def least(self):
        """The first of the shortest words of the mat."""
        return least_word(self._came[-1][1])

    def twin(self):
        """A new live mat with the same n and word."""
        other = Live(self._n)
        other.put_all(self.word)
        return other
