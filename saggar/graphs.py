"""Graphs: the objects of a store and the references between them."""

from saggar.words import is_ref


def target(store, word):
    """Returns the number of the object that a word refers to, or None."""
    if is_ref(word) and store.exists(word // 2):
        return word // 2
    return None


def row_of(store, number):
    """Returns the list of the kind and the contents of an object."""
    return [store.kind(number)] + store.slots(number)


def targets(store, row):
    """Returns the list of the numbers of the objects to which some words refer."""
    found = [target(store, word) for word in row]
    return [number for number in found if number is not None]
