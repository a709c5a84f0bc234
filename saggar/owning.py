"""Owning: which objects all paths to an object go over.

The objects get places in the order in which a search in depth finds them;
the place 0 stands for all roots together. The nearest object before one is
found by the method of Lengauer and Tarjan.
"""

from saggar.graphs import row_of, targets

ROOTS_PLACE = 0


class Search:
    """A search in depth from all roots of a space."""

    def __init__(self, space):
        self.store = space.store
        # The number of the object at each place, and the other way round.
        self.numbers = [None]
        self.places = {}
        # The place from which each one was found, and all that refer to it.
        self.parents = [None]
        self.before = [[]]
        self.explore(targets(self.store, space.all_roots()))

    def explore(self, first):
        """Gives places to all objects that are reached."""
        # A loop, not recursion: chains of objects may be long. For each place
        # on the way: the place, the numbers behind it, how many were looked at.
        way = [[ROOTS_PLACE, first, 0]]
        while way:
            place, row, at = way[-1]
            if at == len(row):
                way.pop()
            else:
                way[-1][2] = at + 1
                if row[at] not in self.places:
                    way.append([self.settle(row[at], place), targets(self.store, row_of(self.store, row[at])), 0])
                self.before[self.places[row[at]]].append(place)

    def settle(self, number, parent):
        """Gives an object the next place; returns it."""
        place = len(self.numbers)
        self.places[number] = place
        self.numbers.append(number)
        self.parents.append(parent)
        self.before.append([])
        return place


class Forest:
    """The part of the search in depth that has been linked so far.

    The best of a place is the place with the least mark on the way up from it.
    """

    def __init__(self, count):
        self.marks = list(range(count))
        self.above = [None] * count
        self.best = list(range(count))

    def best_of(self, place):
        """Returns the place with the least mark from a place upwards."""
        if self.above[place] is None:
            return place
        self.shorten(place)
        return self.best[place]

    def shorten(self, place):
        """Lets all places upwards from one look to the top at once."""
        way = []
        while self.above[self.above[place]] is not None:
            way.append(place)
            place = self.above[place]
        for lower in reversed(way):
            upper = self.above[lower]
            if self.marks[self.best[upper]] < self.marks[self.best[lower]]:
                self.best[lower] = self.best[upper]
            self.above[lower] = self.above[upper]


def nearest_before(search):
    """Returns the list of the nearest places that all paths to each place go over."""
    count = len(search.numbers)
    forest = Forest(count)
    nearest = [ROOTS_PLACE] * count
    buckets = [[] for _ in range(count)]
    for place in range(count - 1, 0, -1):
        parent = search.parents[place]
        for other in search.before[place]:
            mark = forest.marks[forest.best_of(other)]
            forest.marks[place] = min(forest.marks[place], mark)
        buckets[forest.marks[place]].append(place)
        forest.above[place] = parent
        for other in buckets[parent]:
            best = forest.best_of(other)
            nearest[other] = best if forest.marks[best] < forest.marks[other] else parent
        buckets[parent] = []
    for place in range(1, count):
        if nearest[place] != forest.marks[place]:
            nearest[place] = nearest[nearest[place]]
    return nearest
