"""Comparing: whether two spaces are alike but for the numbers of their objects."""

from saggar.graphs import row_of, target
from saggar.inspecting import word_at


def compare(one, other):
    """Returns the verdict on two spaces."""
    if one.held() != other.held():
        return ("held",)
    return Pairing(one, other).verdict()


class Pairing:
    """Pairs the objects of two spaces as they are found, by nearness."""

    def __init__(self, one, other):
        self.one = one
        self.other = other
        self.pairs = []
        # For each object of a space the place of its pair.
        self.places = {}
        self.other_places = {}
        # For each pair the place of the one from which it was found, and the last step.
        self.origins = []

    def verdict(self):
        """Returns the first difference, or all pairs."""
        found = self.row_fault(None, self.one.all_roots(), self.other.all_roots())
        at = 0
        while found is None and at < len(self.pairs):
            number, partner = self.pairs[at]
            found = self.row_fault(at, row_of(self.one.store, number), row_of(self.other.store, partner))
            at = at + 1
        if found is None:
            return ("alike", self.pairs)
        return found

    def row_fault(self, origin, row, other_row):
        """Returns the first difference between the words of two rows, or None."""
        for k, (word, partner) in enumerate(zip(row, other_row)):
            found = self.word_fault((origin, k), word, partner)
            if found is not None:
                return found
        return None

    def word_fault(self, origin, word, other_word):
        """Returns the difference between two words, or None; notes new pairs."""
        number = target(self.one.store, word)
        partner = target(self.other.store, other_word)
        if number is None or partner is None:
            if number is None and partner is None and word == other_word:
                return None
            return ("word", self.path(origin))
        place = self.places.get(number)
        other_place = self.other_places.get(partner)
        if place != other_place:
            nearest = place if place is not None else other_place
            return ("same", self.path(self.origins[nearest]), self.path(origin))
        if place is None:
            return self.size_fault(origin, number, partner)
        return None

    def size_fault(self, origin, number, partner):
        """Pairs two objects that are new; returns the difference of their sizes, or None."""
        if self.one.store.size(number) != self.other.store.size(partner):
            return ("size", self.path(origin))
        self.places[number] = len(self.pairs)
        self.other_places[partner] = len(self.pairs)
        self.pairs.append((number, partner))
        self.origins.append(origin)
        return None

    def path(self, origin):
        """Returns the path that goes on by one step from the best path of a pair."""
        steps = []
        place, k = origin
        while place is not None:
            steps.append(k)
            place, k = self.origins[place]
        return tuple([k] + steps[::-1])


def judge(one, other, verdict):
    """Returns True if a verdict on two spaces holds."""
    kind = verdict[0]
    if kind == "alike":
        return has_pairs(one, other, verdict[1])
    if kind == "held":
        return one.held() != other.held()
    if kind == "word":
        return has_other_word(one, other, verdict[1])
    if kind == "size":
        return has_other_size(one, other, verdict[1])
    return has_other_identity(one, other, verdict[1], verdict[2])


def has_pairs(one, other, pairs):
    """Returns True if the words of two spaces correspond by some pairs."""
    partners = {number: partner for number, partner in pairs}
    if len(partners) != len(pairs) or len({partner: True for _, partner in pairs}) != len(pairs):
        return False
    for number, partner in pairs:
        if not one.store.exists(number) or not other.store.exists(partner):
            return False
        if not correspond(one, other, row_of(one.store, number), row_of(other.store, partner), partners):
            return False
    return correspond(one, other, one.all_roots(), other.all_roots(), partners)


def correspond(one, other, row, other_row, partners):
    """Returns True if the words of two rows correspond, one by one."""
    if len(row) != len(other_row):
        return False
    for word, other_word in zip(row, other_row):
        number = target(one.store, word)
        partner = target(other.store, other_word)
        if number is None and partner is None:
            if word != other_word:
                return False
        elif number is None or partner is None or partners.get(number) != partner:
            return False
    return True


def has_other_word(one, other, path):
    """Returns True if two spaces have words at the end of a path that differ."""
    word = word_at(one, path)
    other_word = word_at(other, path)
    if word is None or other_word is None:
        return False
    number = target(one.store, word)
    partner = target(other.store, other_word)
    if number is None and partner is None:
        return word != other_word
    return number is None or partner is None


def object_at(space, path):
    """Returns the number of the object to which a path leads, or None."""
    word = word_at(space, path)
    if word is None:
        return None
    return target(space.store, word)


def has_other_size(one, other, path):
    """Returns True if a path leads to objects of different sizes."""
    number = object_at(one, path)
    partner = object_at(other, path)
    if number is None or partner is None:
        return False
    return one.store.size(number) != other.store.size(partner)


def has_other_identity(one, other, first, second):
    """Returns True if two paths lead to the same object in one of two spaces only."""
    numbers = [object_at(space, path) for space in (one, other) for path in (first, second)]
    if None in numbers:
        return False
    return (numbers[0] == numbers[1]) != (numbers[2] == numbers[3])


def alike_images(one, other):
    """Returns True if two images are alike."""
    store = one.store()
    other_store = other.store()
    if store.room != other_store.room or store.entries != other_store.entries:
        return False
    if one.symbols.texts() != other.symbols.texts():
        return False
    return compare(one.space, other.space)[0] == "alike"
