"""Naming: which texts are names of classes, globals and fields."""

from saggar.lexing import is_name
from saggar.parsing import RESERVED


def is_global_name(text):
    """Returns True for a name of a class or of another global."""
    return is_name(text) and text[0].isupper()


def is_field_name(text):
    """Returns True for a name of a field."""
    return is_name(text) and text[0].islower() and text not in RESERVED
