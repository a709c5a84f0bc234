"""Looking up: the methods of classes by their selectors."""

from saggar.errors import NoNumber, NoRoom
from saggar.slots import CLASS_ABOVE, CLASS_METHODS
from saggar.words import NIL


def own_method(image, word, selector):
    """Returns the method that a class itself has for a selector, or None."""
    row = image.row(image.get(word, CLASS_METHODS))
    at = place_of(row, selector)
    if at is None:
        return None
    return row[at + 1]


def lookup(image, word, selector):
    """Returns the method that looking up finds from a class on, or None."""
    while word != NIL:
        found = own_method(image, word, selector)
        if found is not None:
            return found
        word = image.get(word, CLASS_ABOVE)
    return None


def put_method(image, word, selector, method):
    """Puts a method or a primitive into a class."""
    table = image.get(word, CLASS_METHODS)
    row = image.row(table)
    at = place_of(row, selector)
    if at is not None:
        image.put(table, at + 1, method)
        return
    count = image.space.held()
    image.keep(method)
    try:
        image.put(word, CLASS_METHODS, image.array(row + [selector, method]))
    except (NoRoom, NoNumber):
        image.let_go(count)
        raise
    image.let_go(count)


def selectors(image, word):
    """Returns the list of the texts of the selectors of a class, in order."""
    row = image.row(image.get(word, CLASS_METHODS))
    return [image.text(selector) for selector in row[::2]]


def place_of(row, selector):
    """Returns the place of a selector among selectors and methods, or None."""
    for at in range(0, len(row), 2):
        if row[at] == selector:
            return at
    return None
