"""Primitives: what is carried out without a method."""

from saggar.contexts import SENDER, block_context, drop, peek, push
from saggar.errors import Trouble
from saggar.kernel import FALSE, KERNEL, TRUE
from saggar.lookup import put_method
from saggar.methods import install
from saggar.processes import give_way, go_on, number_of, running, shown, signal, spawn_block, wait
from saggar.returning import ENSURE, ENSURE_SOURCE, return_from
from saggar.slots import BLOCK_DESCRIPTOR, DESCRIPTOR_ARGC
from saggar.words import NIL, fits, int_of, is_int, of_int

PRIMITIVES = (
    ("Integer", "+", 1),
    ("Integer", "-", 2),
    ("Integer", "*", 3),
    ("Integer", "//", 4),
    ("Integer", "mod:", 5),
    ("Integer", "rem:", 6),
    ("Integer", "<", 7),
    ("Integer", ">", 8),
    ("Object", "=", 9),
    ("Object", "==", 10),
    ("Object", "class", 11),
    ("Object", "show", 12),
    ("Object", "yield", 13),
    ("Object", "become:", 14),
    ("Class", "new", 15),
    ("Class", "new:", 16),
    ("Array", "at:", 17),
    ("Array", "at:put:", 18),
    ("Array", "size", 19),
    ("Block", "value", 20),
    ("Block", "value:", 21),
    ("Block", "value:value:", 22),
    ("Block", "value:value:value:", 23),
    ("Block", "numArgs", 24),
    ("Block", "fork", 25),
    ("Block", "finish:for:", 26),
    ("Semaphore", "wait", 27),
    ("Semaphore", "signal", 28),
)
# How many slots the objects of kernel classes have that new makes.
SIZES = {"Object": 0, "Array": 0, "Association": 2, "Semaphore": 3}
MOST_SLOTS = 10000
# The classes whose objects do not become others.
LASTING = (
    "Integer",
    "Symbol",
    "Class",
    "Undefined",
    "True",
    "False",
    "Method",
    "Code",
    "Block",
    "Context",
    "Process",
    "Semaphore",
)


def install_primitives(image):
    """Puts all primitives into the kernel classes, and ensure: into Block."""
    for owner, selector, number in PRIMITIVES:
        put_method(image, image.kernel(owner), image.symbol(selector), of_int(number))
    image.space.set_root(ENSURE, install(image, image.kernel("Block"), ENSURE_SOURCE))


def perform(image, number, context, count):
    """Carries out a primitive for what lies on the stack of a context."""
    receiver = peek(image, context, count)
    arguments = [peek(image, context, count - 1 - k) for k in range(count)]
    if number in ANSWERS:
        action = ANSWERS[number]
        give(image, context, count, action(image, receiver, arguments))
    else:
        action = TURNS[number]
        action(image, context, receiver, arguments)


def give(image, context, count, word):
    """Puts an answer in the place of a receiver and its arguments."""
    drop(image, context, count + 1)
    push(image, context, word)


def truth(is_so):
    """Returns the word of True or False."""
    return TRUE if is_so else FALSE


def operand(arguments):
    """Returns the number that is the only argument."""
    if not is_int(arguments[0]):
        raise Trouble(("integer",))
    return int_of(arguments[0])


def divisor(arguments):
    """Returns the number that is the only argument and divides."""
    number = operand(arguments)
    if number == 0:
        raise Trouble(("zero",))
    return number


def small(number):
    """Returns the word of a result."""
    if not fits(number):
        raise Trouble(("overflow",))
    return of_int(number)


def plus(image, receiver, arguments):
    """Adds."""
    return small(int_of(receiver) + operand(arguments))


def minus(image, receiver, arguments):
    """Subtracts."""
    return small(int_of(receiver) - operand(arguments))


def times(image, receiver, arguments):
    """Multiplies."""
    return small(int_of(receiver) * operand(arguments))


def quotient(image, receiver, arguments):
    """Divides, rounding towards negative infinity."""
    return small(int_of(receiver) // divisor(arguments))


def modulo(image, receiver, arguments):
    """Returns the rest of the quotient."""
    return small(int_of(receiver) % divisor(arguments))


def remainder(image, receiver, arguments):
    """Returns the rest of the quotient that is rounded towards 0."""
    number = int_of(receiver)
    rest = abs(number) % abs(divisor(arguments))
    return small(rest if number >= 0 else -rest)


def is_less(image, receiver, arguments):
    """Compares numbers."""
    return truth(int_of(receiver) < operand(arguments))


def is_greater(image, receiver, arguments):
    """Compares numbers."""
    return truth(int_of(receiver) > operand(arguments))


def is_same(image, receiver, arguments):
    """Compares words."""
    return truth(receiver == arguments[0])


def class_told(image, receiver, arguments):
    """Returns the class."""
    return image.class_of(receiver)


def show(image, receiver, arguments):
    """Adds what the receiver looks like to the trace."""
    image.trace.append(("show", number_of(image, running(image)), shown(image, receiver)))
    return receiver


def become(image, receiver, arguments):
    """Lets two objects exchange what they are."""
    other = arguments[0]
    for word in (receiver, other):
        if image.class_name(image.class_of(word)) in LASTING:
            raise Trouble(("become",))
    image.store().exchange(receiver // 2, other // 2)
    return receiver


def new_object(image, receiver, arguments):
    """Makes an object of a class."""
    name = image.class_name(receiver)
    if name not in KERNEL:
        return 2 * image.space.new(receiver, image.layout(receiver))
    if name not in SIZES:
        raise Trouble(("new",))
    made = image.new(name, SIZES[name])
    if name == "Semaphore":
        image.fill(made, [of_int(0), NIL, NIL])
    return made


def new_array(image, receiver, arguments):
    """Makes an Array with some slots."""
    if receiver != image.kernel("Array") or not is_int(arguments[0]):
        raise Trouble(("new",))
    size = int_of(arguments[0])
    if not 0 <= size <= MOST_SLOTS:
        raise Trouble(("new",))
    return image.new("Array", size)


def slot_told(image, receiver, arguments):
    """Returns the slot of an Array that an index tells."""
    size = image.store().size(receiver // 2)
    if not is_int(arguments[0]) or not 1 <= int_of(arguments[0]) <= size:
        raise Trouble(("index",))
    return int_of(arguments[0]) - 1


def item(image, receiver, arguments):
    """Returns the word in a slot of an Array."""
    return image.get(receiver, slot_told(image, receiver, arguments))


def set_item(image, receiver, arguments):
    """Changes the word in a slot of an Array."""
    image.put(receiver, slot_told(image, receiver, arguments), arguments[1])
    return arguments[1]


def array_size(image, receiver, arguments):
    """Returns the number of slots of an Array."""
    return of_int(image.store().size(receiver // 2))


def block_argc(image, block):
    """Returns the word of the number of arguments that a block takes."""
    return image.get(image.get(block, BLOCK_DESCRIPTOR), DESCRIPTOR_ARGC)


def argument_count(image, receiver, arguments):
    """Returns how many arguments a block takes."""
    return block_argc(image, receiver)


def check_count(image, block, count):
    """Raises Trouble if a block takes another number of arguments."""
    if block_argc(image, block) != of_int(count):
        raise Trouble(("arguments",))


def fork(image, receiver, arguments):
    """Makes a process that carries out a block."""
    check_count(image, receiver, 0)
    return spawn_block(image, receiver)


def signalled(image, receiver, arguments):
    """Signals a semaphore."""
    signal(image, receiver)
    return receiver


def carry_out(image, context, receiver, arguments):
    """Lets a block run next."""
    check_count(image, receiver, len(arguments))
    made = block_context(image, context, receiver, arguments)
    drop(image, context, len(arguments) + 1)
    go_on(image, made)


def finish(image, context, receiver, arguments):
    """Answers the first argument, from the home that the second one is."""
    word, home = arguments
    if home == NIL:
        give(image, context, len(arguments), word)
        return
    if image.class_of(home) != image.kernel("Context"):
        raise Trouble(("arguments",))
    return_from(image, image.get(context, SENDER), home, word)
    drop(image, context, len(arguments) + 1)


def pass_on(image, context, receiver, arguments):
    """Lets the running process give way."""
    give_way(image)


def pause(image, context, receiver, arguments):
    """Lets the running process wait for a semaphore."""
    wait(image, receiver)


# What these answer is pushed.
ANSWERS = {
    1: plus,
    2: minus,
    3: times,
    4: quotient,
    5: modulo,
    6: remainder,
    7: is_less,
    8: is_greater,
    9: is_same,
    10: is_same,
    11: class_told,
    12: show,
    14: become,
    15: new_object,
    16: new_array,
    17: item,
    18: set_item,
    19: array_size,
    24: argument_count,
    25: fork,
    28: signalled,
}
# These turn to another context or process themselves.
TURNS = {
    13: pass_on,
    20: carry_out,
    21: carry_out,
    22: carry_out,
    23: carry_out,
    26: finish,
    27: pause,
}
