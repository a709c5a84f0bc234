"""Listings: drafts as lines of text, and instructions as numbers."""

from saggar.coding import Draft
from saggar.errors import Malformed
from saggar.lexing import DIGITS, MOST_DIGITS
from saggar.ops import BARE, MOST_ARG, OPS

# How many numbers each op has.
SPAN = 65536
ESCAPES = {"\\n": "\n", "\\\\": "\\"}


def number_of(op, arg):
    """Returns the number of an instruction."""
    return OPS.index(op) * SPAN + arg


def instruction_of(number):
    """Returns the pair (op, arg) of a number."""
    return (OPS[number // SPAN], number % SPAN)


def list_draft(draft):
    """Returns the list of the lines of a draft."""
    head = joined("method", [draft.selector, draft.argc, draft.locals, draft.stack])
    literals = [literal_line(literal) for literal in draft.literals]
    code = [instruction_line(op, arg) for op, arg in draft.code]
    return [head] + literals + ["code"] + code


def joined(first, parts):
    """Returns a line of words and numbers."""
    return " ".join([first] + [str(part) for part in parts])


def literal_line(literal):
    """Returns the line of a literal."""
    if literal[0] in ("symbol", "selector"):
        return literal[0] + " " + encoded(literal[1])
    return joined(literal[0], literal[1:])


def instruction_line(op, arg):
    """Returns the line of an instruction."""
    if op in BARE:
        return op
    return joined(op, [arg])


def encoded(text):
    """Returns a text without line feeds."""
    return text.replace("\\", "\\\\").replace("\n", "\\n")


def decoded(text):
    """Returns the text that was encoded, or None if there is none."""
    found = []
    at = 0
    while at < len(text):
        if text[at] != "\\":
            found.append(text[at])
            at = at + 1
        elif text[at:at + 2] in ESCAPES:
            found.append(ESCAPES[text[at:at + 2]])
            at = at + 2
        else:
            return None
    return "".join(found)


def read_listing(lines):
    """Returns the Draft of a listing."""
    head = head_in(lines[0]) if lines else None
    if head is None:
        raise Malformed(0)
    selector, argc, count, stack = head
    middle = lines.index("code") if "code" in lines else len(lines)
    literals = []
    for k in range(1, middle):
        literals.append(present(literal_in(lines[k]), k))
    if middle == len(lines):
        raise Malformed(middle)
    code = []
    for k in range(middle + 1, len(lines)):
        code.append(present(instruction_in(lines[k]), k))
    return Draft(selector, argc, count, stack, code, literals)


def present(found, k):
    """Returns what was found in a line, if anything was."""
    if found is None:
        raise Malformed(k)
    return found


def head_in(line):
    """Returns the tuple of the parts of a head, or None."""
    words = line.split(" ")
    if len(words) != 5 or words[0] != "method" or words[1] == "":
        return None
    numbers = numbers_in(words[2:])
    if numbers is None:
        return None
    return (words[1], numbers[0], numbers[1], numbers[2])


def literal_in(line):
    """Returns the literal of a line, or None."""
    kind, space, rest = line.partition(" ")
    if space == "":
        return None
    if kind in ("symbol", "selector"):
        return with_part(kind, decoded(rest))
    if kind == "int":
        return with_part(kind, number_in(rest))
    if kind == "global" and rest != "" and " " not in rest:
        return (kind, rest)
    if kind == "block":
        numbers = numbers_in(rest.split(" "))
        if numbers is not None and len(numbers) == 4:
            return (kind, numbers[0], numbers[1], numbers[2], numbers[3])
    return None


def with_part(kind, part):
    """Returns a literal of two parts, or None if the second is None."""
    if part is None:
        return None
    return (kind, part)


def instruction_in(line):
    """Returns the instruction of a line, or None."""
    if line in BARE:
        return (line, 0)
    op, _, rest = line.partition(" ")
    arg = number_in(rest)
    if op not in OPS or op in BARE or arg is None or not 0 <= arg <= MOST_ARG:
        return None
    return (op, arg)


def numbers_in(words):
    """Returns the list of some numbers, or None if one is none."""
    numbers = [number_in(word) for word in words]
    if None in numbers:
        return None
    return numbers


def number_in(word):
    """Returns a number that is written in the one way, or None."""
    if word == "0":
        return 0
    digits = word[1:] if word.startswith("-") else word
    if not 1 <= len(digits) <= MOST_DIGITS or digits[0] == "0":
        return None
    if not all([digit in DIGITS for digit in digits]):
        return None
    return int(word)
