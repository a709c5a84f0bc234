"""A census: some objects of an image, sorted by their classes."""

from saggar.words import int_of, is_int


class Census:
    """The objects with some numbers; no object has changed its class since."""

    def __init__(self, image, numbers):
        self.image = image
        # References to all of them, and lists of references by their classes.
        self.everything = [2 * number for number in numbers]
        self.sorted_out = {}
        for number in numbers:
            self.sorted_out.setdefault(image.store().kind(number), []).append(2 * number)

    def all_of(self, name):
        """Returns the list of the references to all objects of a kernel class."""
        return self.instances(self.image.kernel(name))

    def instances(self, word):
        """Returns the list of the references to all objects of a class."""
        return list(self.sorted_out.get(word, []))

    def has_sizes(self, name, size):
        """Returns True if all objects of a kernel class have so many slots."""
        return all([self.image.store().size(word // 2) == size for word in self.all_of(name)])


def is_between(word, least, most):
    """Returns True for the word of a small integer within bounds."""
    return is_int(word) and least <= int_of(word) <= most
