"""The store: objects that lie one behind the other in one list of integers."""

from heapq import heappop, heappush

from saggar.errors import NoNumber, NoRoom
from saggar.words import NIL

HEADER = 3


class Store:
    """Objects with numbers, kinds and slots, in a fixed room."""

    def __init__(self, room, entries):
        self.room = room
        self.entries = entries
        self.words = []
        # Where each object begins in the list, by its number.
        self._places = {}
        # The numbers below _fresh that no object has, as a heap; no object
        # has a number from _fresh on.
        self._free = []
        self._fresh = 0

    def used(self):
        """Returns the length of the list."""
        return len(self.words)

    def exists(self, number):
        """Returns True if an object has the number."""
        return number in self._places

    def numbers(self):
        """Returns the numbers of all objects in ascending order."""
        return sorted(self._places)

    def free_number(self):
        """Returns the number that the next new object gets."""
        if self._free:
            return self._free[0]
        if self._fresh >= self.entries:
            raise NoNumber(self.entries)
        return self._fresh

    def allocate(self, kind, size):
        """Makes an object at the end of the list; returns its number."""
        need = HEADER + size
        if self.used() + need > self.room:
            raise NoRoom(need)
        number = self.free_number()
        if self._free:
            heappop(self._free)
        else:
            self._fresh = number + 1
        self._places[number] = self.used()
        self.words.extend([number, size, kind] + [NIL] * size)
        return number

    def size(self, number):
        """Returns how many slots an object has."""
        return self.words[self._places[number] + 1]

    def kind(self, number):
        """Returns the kind of an object."""
        return self.words[self._places[number] + 2]

    def set_kind(self, number, word):
        """Gives an object another kind."""
        self.words[self._places[number] + 2] = word

    def get(self, number, at):
        """Returns the content of a slot."""
        return self.words[self._places[number] + HEADER + at]

    def put(self, number, at, word):
        """Changes the content of a slot."""
        self.words[self._places[number] + HEADER + at] = word

    def slots(self, number):
        """Returns the list of the contents of all slots."""
        first = self._places[number] + HEADER
        return self.words[first:first + self.size(number)]

    def drop(self, number):
        """Frees a number; the integers stay until the store is closed up."""
        del self._places[number]
        heappush(self._free, number)

    def close_up(self):
        """Removes the integers of all dropped objects from the list."""
        kept = []
        places = {}
        at = 0
        while at < len(self.words):
            number = self.words[at]
            end = at + HEADER + self.words[at + 1]
            # A dropped object may lie in the list with a number that another
            # object has by now, so the number alone does not tell.
            if self._places.get(number) == at:
                places[number] = len(kept)
                kept.extend(self.words[at:end])
            at = end
        self.words[:] = kept
        self._places = places

    def snapshot(self):
        """Returns a copy of all that the store is made of."""
        places = {number: at for number, at in self._places.items()}
        return (list(self.words), places, list(self._free), self._fresh)

    def restore(self, snapshot):
        """Makes the store what it was when the snapshot was taken."""
        words, places, free, fresh = snapshot
        self.words[:] = words
        self._places = {number: at for number, at in places.items()}
        self._free = list(free)
        self._fresh = fresh

    def exchange(self, first, second):
        """Lets two objects exchange what they are."""
        here = self._places[first]
        there = self._places[second]
        self.words[here] = second
        self.words[there] = first
        self._places[first] = there
        self._places[second] = here
