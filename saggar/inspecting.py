"""Inspecting: why objects are kept, and what they keep."""

from saggar.collecting import reached
from saggar.graphs import row_of, target
from saggar.owning import ROOTS_PLACE, Search, nearest_before
from saggar.store import HEADER
from saggar.words import NIL


def word_at(space, path):
    """Returns the word at the end of a path, or None if it leads nowhere."""
    row = space.all_roots()
    word = None
    for at, k in enumerate(path):
        if at > 0:
            number = target(space.store, word)
            if number is None:
                return None
            row = row_of(space.store, number)
        if not 0 <= k < len(row):
            return None
        word = row[k]
    return word


def paths(space):
    """Returns the dict of the best paths to all objects that are reached."""
    store = space.store
    found = {}
    order = []
    row = space.all_roots()
    beginning = ()
    at = 0
    while True:
        for k, word in enumerate(row):
            number = target(store, word)
            if number is not None and number not in found:
                found[number] = beginning + (k,)
                order.append(number)
        if at == len(order):
            return found
        row = row_of(store, order[at])
        beginning = found[order[at]]
        at = at + 1


def garbage(space):
    """Returns the list of the numbers of all objects that are not reached."""
    found = reached(space.store, space.all_roots())
    return [number for number in space.store.numbers() if number not in found]


def retained(space, place):
    """Returns the list of the numbers of the objects that a place retains."""
    found = reached_without(space, place)
    return sorted([number for number in reached(space.store, space.all_roots()) if number not in found])


def reached_without(space, place):
    """Returns the dict of the objects that are reached if a place holds NIL."""
    roots = space.all_roots()
    if place[0] == "root":
        # NIL stands before the roots.
        roots[place[1] + 1] = NIL
    found = {}
    waiting = [roots]
    while waiting:
        for word in waiting.pop():
            number = target(space.store, word)
            if number is not None and number not in found:
                found[number] = True
                waiting.append(row_without(space.store, number, place))
    return found


def row_without(store, number, place):
    """Returns the kind and the contents of an object if a place holds NIL."""
    row = row_of(store, number)
    if place[0] != "root" and place[1] == number:
        row[0 if place[0] == "kind" else place[2] + 1] = NIL
    return row


def owners(space):
    """Returns the dict of the owners of all objects that are reached."""
    search = Search(space)
    nearest = nearest_before(search)
    return {number: search.numbers[nearest[place]] for number, place in search.places.items()}


def retained_words(space):
    """Returns the dict of the retained words of all objects that are reached."""
    search = Search(space)
    nearest = nearest_before(search)
    totals = [0] * len(nearest)
    # An owner has an earlier place than all that it owns.
    for place in range(len(nearest) - 1, ROOTS_PLACE, -1):
        totals[place] = totals[place] + HEADER + space.store.size(search.numbers[place])
        totals[nearest[place]] = totals[nearest[place]] + totals[place]
    return {number: totals[place] for number, place in search.places.items()}
