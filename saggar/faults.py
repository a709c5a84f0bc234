"""Faults: whether an image is in order, whoever made it."""

from saggar.census import Census
from saggar.collecting import reached
from saggar.contexts import FIXED, RECEIVER
from saggar.graphs import row_of
from saggar.kernel import CLASSES, FALSE, FALSE_ROOT, GLOBALS, KERNEL, MOST_FIELDS, TRUE, TRUE_ROOT
from saggar.naming import is_field_name, is_global_name
from saggar.slots import CLASS_ABOVE, CLASS_FIELDS, CLASS_LAYOUT, CLASS_METHODS, CLASS_NAME, CLASS_SIZE
from saggar.slots import GLOBAL_NAME, GLOBAL_VALUE, METHOD_LITERALS, PROCESS_RESULT
from saggar.soundness import has_ensure, has_methods, is_sound
from saggar.spaces import ROOTS
from saggar.states import state_fault
from saggar.words import NIL, is_int, is_ref, is_symbol, is_word, of_int, symbol_of

# The first root of those that are always nil.
UNUSED = 9
# How many slots all objects of a kernel class have.
SIZES = {"Object": 0, "Association": 2, "Method": 8, "Block": 2, "Process": 5, "Semaphore": 3}


def fault_of(image):
    """Returns None if an image is in order, otherwise what is not."""
    if not has_words(image):
        return "words"
    if not has_kernel_classes(image):
        return "kernel"
    census = Census(image, sorted(reached(image.store(), roots_of(image))))
    if not has_kernel(image, census):
        return "kernel"
    if not has_classes(image, census):
        return "classes"
    if not has_objects(image, census):
        return "objects"
    if not has_globals(image, census):
        return "globals"
    if not has_all_methods(image, census):
        return "methods"
    if not has_inner(image, census):
        return "inner"
    return state_fault(image)


def roots_of(image):
    """Returns the list of the roots, without what is held."""
    return [image.space.root(k) for k in range(ROOTS)]


def has_words(image):
    """Returns True if all integers are words of what there is."""
    store = image.store()
    if not all([is_known(image, word) for word in roots_of(image)]):
        return False
    for number in store.numbers():
        if not all([is_known(image, word) for word in row_of(store, number)]):
            return False
    return True


def is_known(image, word):
    """Returns True for a word of a small integer, a symbol or an object that there is."""
    if not is_word(word):
        return False
    if is_symbol(word):
        return symbol_of(word) < image.symbols.count()
    return is_int(word) or image.store().exists(word // 2)


def are_different(words):
    """Returns True if no word stands twice in a list."""
    return len({word: True for word in words}) == len(words)


def has_kernel_classes(image):
    """Returns True if the kernel classes can be told from the root."""
    store = image.store()
    root = image.space.root(CLASSES)
    if not is_ref(root) or store.size(root // 2) != len(KERNEL):
        return False
    row = image.row(root)
    if not all([is_ref(word) for word in row]) or not are_different(row):
        return False
    if store.kind(root // 2) != row[KERNEL.index("Array")]:
        return False
    kind = row[KERNEL.index("Class")]
    return all([store.kind(word // 2) == kind and store.size(word // 2) == CLASS_SIZE for word in row])


def has_kernel(image, census):
    """Asks the first rule, beside the kernel classes."""
    store = image.store()
    for number, name in enumerate(("Undefined", "True", "False")):
        if not store.exists(number) or store.size(number) > 0 or store.kind(number) != image.kernel(name):
            return False
        if [word for word in census.all_of(name) if word != 2 * number]:
            return False
    if image.space.root(TRUE_ROOT) != TRUE or image.space.root(FALSE_ROOT) != FALSE:
        return False
    unused = roots_of(image)[UNUSED:]
    return unused.count(NIL) == len(unused)


def has_classes(image, census):
    """Asks the second rule."""
    barred = [image.kernel("Integer"), image.kernel("Symbol")]
    for word in census.everything:
        kind = image.class_of(word)
        if not image.is_class(kind) or kind in barred:
            return False
    classes = census.all_of("Class")
    if not census.has_sizes("Class", CLASS_SIZE) or not all([is_class_row(image, image.row(word)) for word in classes]):
        return False
    if not lead_to_object(image, classes) or not all([is_named_well(image, word) for word in classes]):
        return False
    return all([has_fields(image, word) for word in classes])


def is_class_row(image, row):
    """Returns True if the slots of a class hold what they must."""
    if not is_symbol(row[CLASS_NAME]) or not is_global_name(image.text(row[CLASS_NAME])):
        return False
    if row[CLASS_ABOVE] != NIL and not image.is_class(row[CLASS_ABOVE]):
        return False
    if not image.is_a(row[CLASS_FIELDS], "Array") or not image.is_a(row[CLASS_METHODS], "Array"):
        return False
    return all([is_symbol(word) for word in image.row(row[CLASS_FIELDS])])


def lead_to_object(image, classes):
    """Returns True if superclasses lead from every class to Object, which has none."""
    # Classes from which they do.
    known = {image.kernel("Object"): True}
    if image.get(image.kernel("Object"), CLASS_ABOVE) != NIL:
        return False
    for word in classes:
        line = {}
        above = word
        while above not in known:
            if above == NIL or above in line:
                return False
            line[above] = True
            above = image.get(above, CLASS_ABOVE)
        known.update(line)
    return True


def is_named_well(image, word):
    """Returns True if a class has the name and the superclass that it may have."""
    name = image.class_name(word)
    above = image.get(word, CLASS_ABOVE)
    kernel = image.row(image.space.root(CLASSES))
    if word in kernel:
        if name != KERNEL[kernel.index(word)] or image.own_fields(word):
            return False
        return name == "Object" or above == image.kernel("Object")
    return name not in KERNEL and above not in kernel[1:]


def has_fields(image, word):
    """Returns True if the fields of a class are as they must be."""
    fields = image.fields(word)
    if not are_different(fields) or not all([is_field_name(field) for field in fields]):
        return False
    return len(fields) <= MOST_FIELDS and image.get(word, CLASS_LAYOUT) == of_int(len(fields))


def has_objects(image, census):
    """Asks the third rule."""
    kernel = image.row(image.space.root(CLASSES))
    for word in census.everything:
        kind = image.class_of(word)
        if kind not in kernel and image.store().size(word // 2) != image.layout(kind):
            return False
    if not all([census.has_sizes(name, size) for name, size in SIZES.items()]):
        return False
    if not all([image.store().size(word // 2) >= FIXED for word in census.all_of("Context")]):
        return False
    return all([is_int(word) for code in census.all_of("Code") for word in image.row(code)])


def has_globals(image, census):
    """Asks the fourth rule."""
    root = image.space.root(GLOBALS)
    if not image.is_a(root, "Array"):
        return False
    if not all([image.is_a(word, "Association") for word in image.row(root)]):
        return False
    symbols = [image.get(word, GLOBAL_NAME) for word in image.row(root)]
    if not all([is_symbol(word) and is_global_name(image.text(word)) for word in symbols]):
        return False
    if not are_different(symbols) or image.global_names()[:len(KERNEL)] != list(KERNEL):
        return False
    return sorted(image.class_words()) == sorted(census.all_of("Class"))


def has_all_methods(image, census):
    """Asks the fifth rule."""
    if not all([is_sound(image, method) for method in census.all_of("Method")]):
        return False
    return all([has_methods(image, owner) for owner in census.all_of("Class")]) and has_ensure(image)


def has_inner(image, census):
    """Asks the sixth rule."""
    inner = inner_arrays(image, census)
    if not are_different(inner):
        return False
    barred = {word: True for word in inner + image.associations()}
    return not any([word in barred for word in visible_words(image, census, barred)])


def inner_arrays(image, census):
    """Returns the list of the inner Arrays, by the places in which they stand."""
    found = [image.space.root(CLASSES), image.space.root(GLOBALS)]
    for word in census.all_of("Class"):
        found.extend([image.get(word, CLASS_FIELDS), image.get(word, CLASS_METHODS)])
    for word in census.all_of("Method"):
        literals = image.get(word, METHOD_LITERALS)
        found.append(literals)
        found.extend([literal for literal in image.row(literals) if image.is_a(literal, "Array")])
    return found


def visible_words(image, census, barred):
    """Returns the list of the words that a program can read or set."""
    kernel = image.row(image.space.root(CLASSES))
    found = []
    for word in census.everything:
        row = image.row(word)
        kind = image.class_of(word)
        if kind not in kernel:
            found.extend(row)
        elif kind in (image.kernel("Array"), image.kernel("Association")) and word not in barred:
            found.extend(row)
    found.extend([image.get(word, GLOBAL_VALUE) for word in image.associations()])
    for word in census.all_of("Context"):
        row = image.row(word)
        found.extend([row[RECEIVER]] + row[FIXED:])
    found.extend([image.get(word, PROCESS_RESULT) for word in census.all_of("Process")])
    return found
