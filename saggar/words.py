"""Words: integers that stand for small integers, symbols and references."""

from saggar.errors import BadWord

NIL = 0
LEAST = -(1 << 28)
GREATEST = (1 << 28) - 1
MOST = 100000


def fits(number):
    """Returns True if an integer is a small integer."""
    return LEAST <= number <= GREATEST


def is_countable(number):
    """Returns True if a symbol or an object may have the number."""
    return 0 <= number < MOST


def of_int(number):
    """Returns the word of a small integer."""
    if not fits(number):
        raise BadWord(number)
    return 4 * number + 1


def of_symbol(number):
    """Returns the word of the symbol with a number."""
    if not is_countable(number):
        raise BadWord(number)
    return 4 * number + 3


def of_ref(number):
    """Returns the word that refers to the object with a number."""
    if not is_countable(number):
        raise BadWord(number)
    return 2 * number


def is_int(word):
    """Tells by the remainder alone whether a small integer is meant."""
    return word % 4 == 1


def is_symbol(word):
    """Tells by the remainder alone whether a symbol is meant."""
    return word % 4 == 3


def is_ref(word):
    """Tells by the remainder alone whether a reference is meant."""
    return word % 2 == 0


def int_of(word):
    """Returns the small integer that a word stands for."""
    if not is_int(word):
        raise BadWord(word)
    return word // 4


def symbol_of(word):
    """Returns the number of the symbol that a word stands for."""
    if not is_symbol(word):
        raise BadWord(word)
    return word // 4


def ref_of(word):
    """Returns the number of the object that a word refers to."""
    if not is_ref(word):
        raise BadWord(word)
    return word // 2


def is_word(word):
    """Returns True if an integer is a word."""
    if is_int(word):
        return fits(word // 4)
    if is_symbol(word):
        return is_countable(word // 4)
    return is_countable(word // 2)
