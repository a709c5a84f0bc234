"""Contexts: activations of methods and of blocks, and their stacks."""

from saggar.slots import BLOCK_DESCRIPTOR, BLOCK_OUTER, DESCRIPTOR_LOCALS, DESCRIPTOR_STACK, DESCRIPTOR_START
from saggar.slots import METHOD_LOCALS, METHOD_STACK
from saggar.words import NIL, int_of, of_int

# The slots of a context; the locals begin at FIXED, and the stack behind them.
SENDER = 0
METHOD = 1
PC = 2
TOP = 3
RECEIVER = 4
OUTER = 5
DESCRIPTOR = 6
FIXED = 7


def method_context(image, sender, method, receiver, arguments):
    """Returns the word of a new context of a method."""
    size = FIXED + number_in(image, method, METHOD_LOCALS) + number_in(image, method, METHOD_STACK)
    context = image.new("Context", size)
    image.fill(context, [sender, method, of_int(0), of_int(0), receiver, NIL, NIL] + list(arguments))
    return context


def block_context(image, sender, block, arguments):
    """Returns the word of a new context of a block."""
    outer = image.get(block, BLOCK_OUTER)
    descriptor = image.get(block, BLOCK_DESCRIPTOR)
    count = number_in(image, descriptor, DESCRIPTOR_LOCALS)
    context = image.new("Context", FIXED + count + number_in(image, descriptor, DESCRIPTOR_STACK))
    start = image.get(descriptor, DESCRIPTOR_START)
    method = image.get(outer, METHOD)
    receiver = image.get(outer, RECEIVER)
    image.fill(context, [sender, method, start, of_int(0), receiver, outer, descriptor] + list(arguments))
    return context


def number_in(image, word, at):
    """Returns the small integer in a slot of an object."""
    return int_of(image.get(word, at))


def locals_of(image, context):
    """Returns the number of the locals of a context."""
    descriptor = image.get(context, DESCRIPTOR)
    if descriptor == NIL:
        return number_in(image, image.get(context, METHOD), METHOD_LOCALS)
    return number_in(image, descriptor, DESCRIPTOR_LOCALS)


def bottom(image, context):
    """Returns the slot of the lowest word of the stack."""
    return FIXED + locals_of(image, context)


def top(image, context):
    """Returns the first slot above the stack."""
    return bottom(image, context) + number_in(image, context, TOP)


def push(image, context, word):
    """Puts a word on the stack of a context."""
    image.put(context, top(image, context), word)
    image.put(context, TOP, of_int(number_in(image, context, TOP) + 1))


def pop(image, context):
    """Takes the topmost word off the stack of a context; returns it."""
    word = peek(image, context, 0)
    drop(image, context, 1)
    return word


def peek(image, context, depth):
    """Returns the word that lies so many places below the topmost one."""
    return image.get(context, top(image, context) - 1 - depth)


def drop(image, context, count):
    """Takes some words off the stack of a context."""
    end = top(image, context)
    for at in range(end - count, end):
        image.put(context, at, NIL)
    image.put(context, TOP, of_int(number_in(image, context, TOP) - count))


def stack_of(image, context):
    """Returns the list of the words on the stack, the lowest one first."""
    return image.row(context)[bottom(image, context):top(image, context)]


def outwards(image, context, distance):
    """Returns the context so many steps outwards."""
    for _ in range(distance):
        context = image.get(context, OUTER)
    return context


def home_of(image, context):
    """Returns the context of the method in which a context was made."""
    while image.get(context, DESCRIPTOR) != NIL:
        context = image.get(context, OUTER)
    return context


def callers(image, context):
    """Returns the list of a context, its sender, and so on."""
    found = []
    while context != NIL:
        found.append(context)
        context = image.get(context, SENDER)
    return found
