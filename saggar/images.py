"""Images as numbers: saving and loading."""

from saggar.errors import BadImage, NoNumber, NoRoom
from saggar.faults import fault_of, has_words, roots_of
from saggar.graphs import row_of
from saggar.kernel import Image
from saggar.spaces import ROOTS
from saggar.symbols import LONGEST
from saggar.words import MOST, is_ref

# The characters with the codes from 32 on, but for one code that is left out.
CHARACTERS = " !\"#$&'()*+,-./0123456789:;<=>?@ABCDEFGHIJKLMNOPQRSTUVWXYZ[\\]^_`abcdefghijklmnopqrstuvwxyz{|}~"
FIRST_CODE = 32
LEFT_OUT = 37
LINE_FEED = 10
LEAST_ROOM = 1000
MOST_ROOM = 1000000
LEAST_ENTRIES = 100
# Nil, true and false are saved whether the roots reach them or not.
ALWAYS = 3


def saved(image):
    """Returns the list of the numbers of an image."""
    store = image.store()
    order = saving_order(image)
    places = {number: at for at, number in enumerate(order)}
    found = [store.room, store.entries] + saved_symbols(image)
    found.extend([moved(word, places) for word in roots_of(image)])
    found.append(len(order))
    for number in order:
        found.append(store.size(number))
        found.extend([moved(word, places) for word in row_of(store, number)])
    return found


def saved_symbols(image):
    """Returns the list of the numbers of the symbols of an image."""
    texts = image.symbols.texts()
    found = [len(texts)]
    for text in texts:
        found.append(len(text))
        found.extend([ord(character) for character in text])
    return found


def saving_order(image):
    """Returns the list of the numbers of the objects that are saved, in order."""
    store = image.store()
    order = list(range(ALWAYS))
    known = {number: True for number in order}
    row = roots_of(image)
    at = 0
    while True:
        for word in row:
            if is_ref(word) and word // 2 not in known:
                known[word // 2] = True
                order.append(word // 2)
        if at == len(order):
            return order
        row = row_of(store, order[at])
        at = at + 1


def moved(word, places):
    """Returns a word, with the new number in a reference."""
    if is_ref(word):
        return 2 * places[word // 2]
    return word


def loaded(numbers):
    """Returns the image of some numbers; raises BadImage if it is none in order."""
    check_room(numbers)
    image = image_of(numbers)
    if not has_words(image):
        raise BadImage("words")
    if saved(image) != numbers:
        raise BadImage("order")
    fault = fault_of(image)
    if fault is not None:
        raise BadImage(fault)
    return image


def check_room(numbers):
    """Raises BadImage if the first two numbers are no room and no number of entries."""
    room, entries = Loader(numbers).take_row(2)
    if not LEAST_ROOM <= room <= MOST_ROOM or not LEAST_ENTRIES <= entries <= MOST:
        raise BadImage("room")


def copied(image):
    """Returns a copy of an image in order, with its trace."""
    copy = image_of(saved(image))
    copy.trace.extend(image.trace)
    return copy


def image_of(numbers):
    """Returns the image of some numbers; asks only whether they can be read."""
    return Loader(numbers).read_image()


class Loader:
    """Reads the numbers of an image from left to right."""

    def __init__(self, numbers):
        self.numbers = numbers
        self.at = 0

    def left(self):
        """Returns how many numbers are left."""
        return len(self.numbers) - self.at

    def take(self):
        """Goes on behind a number; returns it."""
        return self.take_row(1)[0]

    def take_row(self, count):
        """Goes on behind some numbers; returns the list of them."""
        if count > self.left():
            raise BadImage("numbers")
        self.at = self.at + count
        return self.numbers[self.at - count:self.at]

    def take_count(self):
        """Goes on behind the number of what comes behind it; returns it."""
        count = self.take()
        if not 0 <= count <= self.left():
            raise BadImage("numbers")
        return count

    def read_image(self):
        """Returns the image of all numbers."""
        room, entries = self.take_row(2)
        image = Image(room, entries)
        self.take_symbols(image.symbols)
        for k, word in enumerate(self.take_row(ROOTS)):
            image.space.set_root(k, word)
        self.take_objects(image.store())
        if self.left() > 0:
            raise BadImage("numbers")
        return image

    def take_symbols(self, symbols):
        """Reads all symbols into a table."""
        count = self.take_count()
        if count > symbols.most:
            raise BadImage("symbols")
        for _ in range(count):
            length = self.take_count()
            if length > LONGEST:
                raise BadImage("symbols")
            text = "".join([character_of(code) for code in self.take_row(length)])
            if symbols.knows(text):
                raise BadImage("symbols")
            symbols.number(text)

    def take_objects(self, store):
        """Reads all objects into a store."""
        count = self.take_count()
        if count < ALWAYS:
            raise BadImage("numbers")
        for _ in range(count):
            size = self.take_count()
            kind = self.take()
            row = self.take_row(size)
            put_object(store, kind, row)


def put_object(store, kind, row):
    """Makes an object of a store behind the others."""
    try:
        number = store.allocate(kind, len(row))
    except (NoRoom, NoNumber):
        raise BadImage("room")
    for at, word in enumerate(row):
        store.put(number, at, word)


def character_of(code):
    """Returns the character with a code."""
    if code == LINE_FEED:
        return "\n"
    at = code - FIRST_CODE
    if code > LEFT_OUT:
        at = at - 1
    if code == LEFT_OUT or not 0 <= at < len(CHARACTERS):
        raise BadImage("symbols")
    return CHARACTERS[at]
