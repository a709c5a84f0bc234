"""Random spaces for tests, and plain readings of what is reached in them."""

from saggar.spaces import Space


def grown(chance, count, words=None):
    """Returns a space with random objects, some of which are not reached, and held words."""
    space = Space(100000, 90000)
    # Numbers of objects that are dropped stay free, and some words refer to them.
    for _ in range(count):
        space.hold(2 * space.new(0, chance.choice([0, 1, 1, 2, 2, 3, 5])))
    gone = chance.sample(range(count), count // 8)
    for number in gone:
        if number > 0 or chance.random() < 0.5:
            space.store.drop(number)
    space.store.close_up()
    space.drop(count)
    numbers = space.store.numbers()

    def word():
        kind = chance.randrange(8)
        if kind < 5 and numbers:
            return 2 * chance.choice(numbers)
        return chance.choice([0, 1, 3, 5, 7, -3, 2 * count + 40, 2 * chance.choice(gone or [count])])
    for number in numbers:
        space.store.set_kind(number, word() if chance.random() < 0.4 else 1)
        for at in range(space.store.size(number)):
            space.store.put(number, at, word() if chance.random() < 0.7 else 1)
    for _ in range(chance.randrange(1, 5)):
        space.set_root(chance.randrange(16), word())
    for _ in range(chance.randrange(4)):
        space.hold(word())
    return space


def chained(count, loose=False):
    """Returns a space in which the root 0 reaches a chain of objects; the kind of all is one object."""
    space = Space(10 * count + 100, count + 10)
    first = space.new(0, 0)
    space.set_root(15, 2 * first)
    kind = 2 * space.new(0, 0)
    space.set_root(14, kind)
    before = None
    for _ in range(count):
        number = space.new(kind, 1)
        if before is None:
            space.set_root(0, 2 * number)
        else:
            space.store.put(before, 0, 2 * number)
        before = number
    if loose:
        space.set_root(14, 0)
    return space


def rows(space):
    """Returns the dict of the kinds and slots of all objects, and the list of all roots."""
    store = space.store
    return {number: [store.kind(number)] + store.slots(number) for number in store.numbers()}, space.all_roots()


def found_without(space, barred=None, table=None, first=None):
    """Returns the set of the objects that are reached without going over one of them."""
    if table is None:
        table, first = rows(space)
    found, waiting = set(), list(first)
    while waiting:
        word = waiting.pop()
        if word % 2 == 0 and word // 2 in table and word // 2 not in found and word // 2 != barred:
            found.add(word // 2)
            waiting += table[word // 2]
    return found


def state_of(space):
    """Returns all that a function that changes nothing leaves as it was."""
    return [space.store.words[:], space.all_roots(), space.held(), space.allocations, space.collections, space.store.numbers()]
