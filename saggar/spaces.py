"""Spaces: a store with roots and held words that tell what is kept."""

from saggar.collecting import collect, reached, words_of
from saggar.errors import NoNumber, NoRoom, Wrong
from saggar.store import Store
from saggar.words import NIL

ROOTS = 16


class Space:
    """A store that is collected when it must be, or when it is pressed."""

    def __init__(self, room, entries):
        self.store = Store(room, entries)
        self.always = False
        self.pressure = []
        self.allocations = 0
        self.collections = 0
        self._roots = [NIL] * ROOTS
        self._held = []
        # The moments once more, so that looking for one takes no time.
        self._moments = {}
        # What the open piece of work gives back, or None.
        self._work = None

    def press(self, moments, *, always=False):
        """Sets the calls of new that collect first."""
        self.pressure = list(moments)
        self.always = always
        self._moments = {moment: True for moment in moments}

    def root(self, k):
        """Returns a root."""
        return self._roots[k]

    def set_root(self, k, word):
        """Changes a root."""
        self._roots[k] = word

    def hold(self, word):
        """Adds a word behind the held words; returns it."""
        self._held.append(word)
        return word

    def drop(self, count):
        """Removes the last held words."""
        del self._held[len(self._held) - count:]

    def held(self):
        """Returns how many words are held."""
        return len(self._held)

    def all_roots(self):
        """Returns the list of NIL, the roots and the held words."""
        return [NIL] + self._roots + self._held

    def collect(self):
        """Collects; returns how many objects were dropped."""
        if self._work is not None:
            raise Wrong("open")
        return self._collect_beside([])

    def live_words(self):
        """Returns how many integers the reached objects take."""
        return words_of(self.store, reached(self.store, self.all_roots()))

    def new(self, kind, size):
        """Makes an object; returns its number."""
        self.allocations = self.allocations + 1
        if self._work is None:
            if self.always or self.allocations in self._moments:
                self._collect_beside([kind])
            try:
                return self.store.allocate(kind, size)
            except (NoRoom, NoNumber):
                self._collect_beside([kind])
        return self.store.allocate(kind, size)

    def begin(self):
        """Opens a piece of work that can be given back."""
        if self._work is not None:
            raise Wrong("open")
        self._collect_beside([])
        self._work = (self.store.snapshot(), list(self._roots), list(self._held))

    def commit(self):
        """Closes the piece of work and keeps what has been done."""
        if self._work is None:
            raise Wrong("closed")
        self._work = None

    def abort(self):
        """Closes the piece of work and gives back what was before it."""
        if self._work is None:
            raise Wrong("closed")
        snapshot, roots, held = self._work
        self.store.restore(snapshot)
        self._roots = roots
        self._held = held
        self._work = None

    def _collect_beside(self, words):
        """Collects, but keeps what some other words reach, too."""
        self.collections = self.collections + 1
        return collect(self.store, self.all_roots() + words)
