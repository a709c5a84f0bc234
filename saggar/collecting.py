"""Collecting: dropping the objects that no root reaches."""

from saggar.store import HEADER
from saggar.words import is_ref


def reached(store, roots):
    """Returns a dict whose keys are the numbers of all reached objects."""
    found = {}
    waiting = [list(roots)]
    while waiting:
        row = waiting.pop()
        for word in row:
            number = word // 2
            if is_ref(word) and number not in found and store.exists(number):
                found[number] = True
                waiting.append([store.kind(number)] + store.slots(number))
    return found


def words_of(store, numbers):
    """Returns how many integers some objects take in the list."""
    return sum([HEADER + store.size(number) for number in numbers])


def collect(store, roots):
    """Drops what the roots do not reach; returns how many objects."""
    kept = reached(store, roots)
    lost = [number for number in store.numbers() if number not in kept]
    for number in lost:
        store.drop(number)
    store.close_up()
    return len(lost)
