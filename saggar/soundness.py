"""Soundness: whether methods are what compiling their sources makes."""

from saggar.errors import BadMethod
from saggar.methods import code_words, draft_for
from saggar.primitives import PRIMITIVES
from saggar.returning import ENSURE, ENSURE_SOURCE
from saggar.slots import CLASS_METHODS, METHOD_CODE, METHOD_LITERALS, METHOD_OWNER, METHOD_SELECTOR, METHOD_SOURCE
from saggar.slots import METHOD_ARGC
from saggar.words import NIL, int_of, is_int, is_symbol, of_int


def is_sound(image, method):
    """Returns True if a method is what its source is compiled to.

    Classes and globals are in order, and the method has its eight slots.
    """
    row = image.row(method)
    if not is_symbol(row[METHOD_SELECTOR]) or not is_symbol(row[METHOD_SOURCE]):
        return False
    if not image.is_class(row[METHOD_OWNER]):
        return False
    if not image.is_a(row[METHOD_CODE], "Code") or not image.is_a(row[METHOD_LITERALS], "Array"):
        return False
    try:
        draft = draft_for(image, row[METHOD_OWNER], image.text(row[METHOD_SOURCE]))
    except BadMethod:
        return False
    return is_like(image, row, draft)


def is_like(image, row, draft):
    """Returns True if the slots of a method are those that a draft makes."""
    if image.text(row[METHOD_SELECTOR]) != draft.selector:
        return False
    if image.row(row[METHOD_CODE]) != code_words(draft):
        return False
    if row[METHOD_ARGC:] != [of_int(draft.argc), of_int(draft.locals), of_int(draft.stack)]:
        return False
    literals = image.row(row[METHOD_LITERALS])
    if len(literals) != len(draft.literals):
        return False
    return all([is_literal_like(image, word, literal) for word, literal in zip(literals, draft.literals)])


def is_literal_like(image, word, literal):
    """Returns True if a word is the one that a literal becomes."""
    kind = literal[0]
    if kind == "int":
        return word == of_int(literal[1])
    if kind == "global":
        return word == image.association(literal[1])
    if kind == "block":
        return image.is_a(word, "Array") and image.row(word) == [of_int(number) for number in literal[1:]]
    return is_symbol(word) and image.text(word) == literal[1]


def has_methods(image, owner):
    """Returns True if different selectors and what they find alternate in a class."""
    row = image.row(image.get(owner, CLASS_METHODS))
    selectors = row[::2]
    methods = row[1::2]
    if len(methods) != len(selectors) or not all([is_symbol(word) for word in selectors]):
        return False
    if len({word: True for word in selectors}) != len(selectors):
        return False
    return all([is_entry(image, owner, selector, word) for selector, word in zip(selectors, methods)])


def is_entry(image, owner, selector, word):
    """Returns True if a class may have a method or a primitive for a selector."""
    if is_int(word):
        return (image.class_name(owner), image.text(selector), int_of(word)) in PRIMITIVES
    if not image.is_a(word, "Method"):
        return False
    return image.get(word, METHOD_SELECTOR) == selector and image.get(word, METHOD_OWNER) == owner


def has_ensure(image):
    """Returns True if the method ensure: is missing, or what it must be."""
    method = image.space.root(ENSURE)
    if method == NIL:
        return True
    if not image.is_a(method, "Method") or image.get(method, METHOD_OWNER) != image.kernel("Block"):
        return False
    return image.text(image.get(method, METHOD_SOURCE)) == ENSURE_SOURCE
