"""The kernel: images with their classes and globals."""

from saggar.errors import BadClass, NoNumber, NoRoom, NoSymbol
from saggar.naming import is_field_name, is_global_name
from saggar.slots import CLASS_ABOVE, CLASS_FIELDS, CLASS_LAYOUT, CLASS_NAME, CLASS_SIZE
from saggar.slots import GLOBAL_NAME, GLOBAL_VALUE
from saggar.spaces import Space
from saggar.symbols import Symbols
from saggar.words import NIL, int_of, is_int, is_ref, is_symbol, of_int, of_symbol, symbol_of

KERNEL = (
    "Object",
    "Class",
    "Undefined",
    "True",
    "False",
    "Integer",
    "Symbol",
    "Array",
    "Association",
    "Method",
    "Code",
    "Block",
    "Context",
    "Process",
    "Semaphore",
)
TRUE = 2
FALSE = 4
# The roots of the space.
CLASSES = 0
GLOBALS = 1
RUNNING = 2
FIRST_READY = 3
LAST_READY = 4
NEXT_NUMBER = 5
TRUE_ROOT = 6
FALSE_ROOT = 7
MOST_FIELDS = 32


class Image:
    """Objects in a space, symbols, and what has been shown."""

    def __init__(self, room, entries):
        self.space = Space(room, entries)
        self.symbols = Symbols()
        self.trace = []

    def store(self):
        """Returns the store of the space."""
        return self.space.store

    def symbol(self, text):
        """Returns the word of a symbol, which is added if it is new."""
        return of_symbol(self.symbols.number(text))

    def text(self, word):
        """Returns the text of the word of a symbol."""
        return self.symbols.text(symbol_of(word))

    def kernel(self, name):
        """Returns the word of a kernel class."""
        return self.get(self.space.root(CLASSES), KERNEL.index(name))

    def class_of(self, word):
        """Returns the word of the class of what a word stands for."""
        if is_int(word):
            return self.kernel("Integer")
        if is_symbol(word):
            return self.kernel("Symbol")
        return self.store().kind(word // 2)

    def class_named(self, name):
        """Returns the word of the class with a name, or None."""
        association = self.association(name)
        if association is None or not self.holds_class(association):
            return None
        return self.get(association, GLOBAL_VALUE)

    def class_name(self, word):
        """Returns the name of a class."""
        return self.text(self.get(word, CLASS_NAME))

    def own_fields(self, word):
        """Returns the list of the names of the own fields of a class."""
        return [self.text(name) for name in self.row(self.get(word, CLASS_FIELDS))]

    def fields(self, word):
        """Returns the list of the names of all fields of a class."""
        found = []
        while word != NIL:
            found = self.own_fields(word) + found
            word = self.get(word, CLASS_ABOVE)
        return found

    def layout(self, word):
        """Returns the number of all fields of a class."""
        return int_of(self.get(word, CLASS_LAYOUT))

    def get(self, word, at):
        """Returns what a slot of an object holds."""
        return self.store().get(word // 2, at)

    def put(self, word, at, other):
        """Changes what a slot of an object holds."""
        self.store().put(word // 2, at, other)

    def items(self, word):
        """Returns the list of the slots of an object."""
        return self.row(word)

    def row(self, word):
        """Does what items does, under a name that no dict has."""
        return self.store().slots(word // 2)

    def new(self, name, size):
        """Returns the word of a new object of a kernel class."""
        return 2 * self.space.new(self.kernel(name), size)

    def array(self, words):
        """Returns the word of a new Array with some words."""
        return self.array_of("Array", words)

    def array_of(self, name, words):
        """Returns the word of a new object of a kernel class with some words."""
        made = self.new(name, len(words))
        self.fill(made, words)
        return made

    def fill(self, word, words):
        """Puts words into the slots of an object."""
        for at, other in enumerate(words):
            self.put(word, at, other)

    def keep(self, word):
        """Holds a word until it is let go; returns it."""
        return self.space.hold(word)

    def let_go(self, count):
        """Lets only so many words be held."""
        self.space.drop(self.space.held() - count)

    def associations(self):
        """Returns the list of the words of all globals, in order."""
        return self.row(self.space.root(GLOBALS))

    def association(self, name):
        """Returns the word of a global, or None."""
        if not self.symbols.knows(name):
            return None
        symbol = self.symbol(name)
        for association in self.associations():
            if self.get(association, GLOBAL_NAME) == symbol:
                return association
        return None

    def holds_class(self, association):
        """Returns True if the value of a global is the class of its name."""
        value = self.get(association, GLOBAL_VALUE)
        return self.is_class(value) and self.get(value, CLASS_NAME) == self.get(association, GLOBAL_NAME)

    def global_names(self):
        """Returns the list of the names of all globals, in order."""
        return [self.text(self.get(association, GLOBAL_NAME)) for association in self.associations()]

    def class_words(self):
        """Returns the list of the words of all classes, in the order of the globals."""
        holders = [association for association in self.associations() if self.holds_class(association)]
        return [self.get(association, GLOBAL_VALUE) for association in holders]

    def is_class(self, word):
        """Returns True if a word refers to a class."""
        return self.is_a(word, "Class")

    def is_a(self, word, name):
        """Returns True if a word refers to an object of a kernel class."""
        return is_ref(word) and self.class_of(word) == self.kernel(name)

    def is_below(self, word, other):
        """Returns True if a class is another one or below it."""
        while word != NIL:
            if word == other:
                return True
            word = self.get(word, CLASS_ABOVE)
        return False


def new_image(room, entries):
    """Returns an image with the kernel classes, which have no methods."""
    image = Image(room, entries)
    for _ in range(3):
        image.space.new(NIL, 0)
    classes = [image.keep(2 * image.space.new(NIL, CLASS_SIZE)) for _ in KERNEL]
    # Nothing has a class so far; the root alone lets kernel classes be found.
    image.space.set_root(CLASSES, 2 * image.space.new(classes[KERNEL.index("Array")], len(KERNEL)))
    image.fill(image.space.root(CLASSES), classes)
    for number, name in enumerate(("Undefined", "True", "False")):
        image.store().set_kind(number, image.kernel(name))
    for name in KERNEL:
        image.store().set_kind(image.kernel(name) // 2, image.kernel("Class"))
    for name in KERNEL:
        above = NIL if name == "Object" else image.kernel("Object")
        fill_class(image, image.kernel(name), image.symbol(name), above, [])
    associations = [add_association(image, image.get(word, CLASS_NAME), word) for word in classes]
    image.space.set_root(GLOBALS, image.array(associations))
    image.space.set_root(NEXT_NUMBER, of_int(1))
    image.space.set_root(TRUE_ROOT, TRUE)
    image.space.set_root(FALSE_ROOT, FALSE)
    image.let_go(0)
    return image


def define_class(image, name, superclass, fields):
    """Defines a class below another one."""
    check_class(image, name, superclass, fields)
    count = image.space.held()
    try:
        add_class(image, name, superclass, fields)
    except (NoRoom, NoNumber, NoSymbol):
        image.let_go(count)
        raise
    image.let_go(count)


def define_global(image, name):
    """Defines a global with the value nil."""
    check_global(image, name)
    count = image.space.held()
    try:
        add_global(image, image.symbol(name), NIL)
    except (NoRoom, NoNumber, NoSymbol):
        image.let_go(count)
        raise
    image.let_go(count)


def check_global(image, name):
    """Raises BadClass if no global can get a name."""
    if not is_global_name(name) or image.association(name) is not None:
        raise BadClass("name")


def check_class(image, name, superclass, fields):
    """Raises BadClass if a class cannot be defined."""
    check_global(image, name)
    above = image.class_named(superclass)
    if above is None or (superclass in KERNEL and superclass != "Object"):
        raise BadClass("super")
    known = image.fields(above)
    for field in fields:
        if not is_field_name(field):
            raise BadClass("field")
        if field in known:
            raise BadClass("twice")
        known.append(field)
    if len(known) > MOST_FIELDS:
        raise BadClass("many")


def add_class(image, name, superclass, fields):
    """Makes a class and its global; what is made is held."""
    symbol = image.symbol(name)
    names = [image.symbol(field) for field in fields]
    word = image.keep(image.new("Class", CLASS_SIZE))
    fill_class(image, word, symbol, image.class_named(superclass), names)
    add_global(image, symbol, word)


def fill_class(image, word, symbol, above, names):
    """Fills the slots of a class; its Arrays, which are made, are held."""
    own = image.keep(image.array(names))
    methods = image.keep(image.array([]))
    count = len(names)
    if above != NIL:
        count = count + image.layout(above)
    image.fill(word, [symbol, above, own, methods, of_int(count)])


def add_association(image, symbol, value):
    """Returns the word of a new association, which is held."""
    return image.keep(image.array_of("Association", [symbol, value]))


def add_global(image, symbol, value):
    """Makes a global behind the others; what is made is held."""
    association = add_association(image, symbol, value)
    image.space.set_root(GLOBALS, image.array(image.associations() + [association]))
