"""Stepping: one instruction of the running process."""

from saggar.contexts import DESCRIPTOR, METHOD, PC, RECEIVER, drop, home_of, method_context
from saggar.contexts import FIXED, number_in, outwards, peek, pop, push
from saggar.errors import NoNumber, NoRoom, Trouble
from saggar.kernel import FALSE, TRUE
from saggar.listing import instruction_of
from saggar.lookup import lookup
from saggar.primitives import perform
from saggar.processes import current, end_with_error, go_on
from saggar.returning import answer, return_from
from saggar.slots import CLASS_ABOVE, GLOBAL_VALUE, METHOD_CODE, METHOD_LITERALS, METHOD_OWNER
from saggar.words import NIL, int_of, is_int, of_int


def step(image):
    """Does one step of the running process."""
    context = current(image)
    place = number_in(image, context, PC)
    code = image.get(image.get(context, METHOD), METHOD_CODE)
    op, arg = instruction_of(number_in(image, code, place))
    action = ACTIONS[op]
    image.put(context, PC, of_int(place + 1))
    try:
        action(image, context, arg)
    except (NoRoom, NoNumber):
        # All else is changed only when nothing more is made.
        image.put(context, PC, of_int(place))
        raise
    except Trouble as trouble:
        end_with_error(image, trouble.what)


def literal_at(image, context, k):
    """Returns the word of a literal of the method of a context."""
    return image.get(image.get(image.get(context, METHOD), METHOD_LITERALS), k)


def store_top(image, context, word, at):
    """Puts the topmost word of a context into a slot of an object."""
    image.put(word, at, peek(image, context, 0))


def push_local(image, context, arg):
    """Pushes a local."""
    push(image, context, image.get(context, FIXED + arg))


def set_local(image, context, arg):
    """Sets a local."""
    store_top(image, context, context, FIXED + arg)


def push_outer(image, context, arg):
    """Pushes a local of a context outwards."""
    push(image, context, image.get(outwards(image, context, arg // 256), FIXED + arg % 256))


def set_outer(image, context, arg):
    """Sets a local of a context outwards."""
    store_top(image, context, outwards(image, context, arg // 256), FIXED + arg % 256)


def owner_of(image, context):
    """Returns the class that owns the method of a context."""
    return image.get(image.get(context, METHOD), METHOD_OWNER)


def field_holder(image, context):
    """Returns the receiver, which must have the fields of the method."""
    receiver = image.get(context, RECEIVER)
    if not image.is_below(image.class_of(receiver), owner_of(image, context)):
        raise Trouble(("receiver",))
    return receiver


def push_field(image, context, arg):
    """Pushes a field of the receiver."""
    push(image, context, image.get(field_holder(image, context), arg))


def set_field(image, context, arg):
    """Sets a field of the receiver."""
    store_top(image, context, field_holder(image, context), arg)


def push_literal(image, context, arg):
    """Pushes a literal."""
    push(image, context, literal_at(image, context, arg))


def push_global(image, context, arg):
    """Pushes the value of a global."""
    push(image, context, image.get(literal_at(image, context, arg), GLOBAL_VALUE))


def set_global(image, context, arg):
    """Sets a global that does not hold its class."""
    association = literal_at(image, context, arg)
    if image.holds_class(association):
        raise Trouble(("class",))
    store_top(image, context, association, GLOBAL_VALUE)


def push_self(image, context, arg):
    """Pushes the receiver."""
    push(image, context, image.get(context, RECEIVER))


def push_nil(image, context, arg):
    """Pushes nil."""
    push(image, context, NIL)


def push_true(image, context, arg):
    """Pushes true."""
    push(image, context, TRUE)


def push_false(image, context, arg):
    """Pushes false."""
    push(image, context, FALSE)


def take_off(image, context, arg):
    """Takes the topmost word off."""
    drop(image, context, 1)


def push_again(image, context, arg):
    """Pushes the topmost word once more."""
    push(image, context, peek(image, context, 0))


def send(image, context, arg):
    """Sends a selector to the receiver on the stack."""
    receiver = peek(image, context, arg % 16)
    send_from(image, context, image.class_of(receiver), arg)


def super_send(image, context, arg):
    """Sends a selector; looking up begins above the owner of the method."""
    send_from(image, context, image.get(owner_of(image, context), CLASS_ABOVE), arg)


def send_from(image, context, start, arg):
    """Sends a selector; looking up begins with a class, or finds nothing."""
    selector = literal_at(image, context, arg // 16)
    count = arg % 16
    method = lookup(image, start, selector)
    if method is None:
        raise Trouble(("unknown", image.text(selector)))
    if is_int(method):
        perform(image, int_of(method), context, count)
        return
    arguments = [peek(image, context, count - 1 - k) for k in range(count)]
    made = method_context(image, context, method, peek(image, context, count), arguments)
    drop(image, context, count + 1)
    go_on(image, made)


def make_block(image, context, arg):
    """Makes a block and pushes it."""
    push(image, context, image.array_of("Block", [context, literal_at(image, context, arg)]))


def jump(image, context, arg):
    """Goes on at another place."""
    image.put(context, PC, of_int(arg))


def jump_false(image, context, arg):
    """Takes a truth value off; goes on at another place if it is false."""
    word = pop(image, context)
    if word == FALSE:
        jump(image, context, arg)
    elif word != TRUE:
        raise Trouble(("test",))


def return_home(image, context, arg):
    """Answers from the method."""
    word = pop(image, context)
    if image.get(context, DESCRIPTOR) == NIL:
        answer(image, context, word)
    else:
        return_from(image, context, home_of(image, context), word)


def leave(image, context, arg):
    """Answers from the block."""
    answer(image, context, pop(image, context))


ACTIONS = {
    "local": push_local,
    "set_local": set_local,
    "outer": push_outer,
    "set_outer": set_outer,
    "field": push_field,
    "set_field": set_field,
    "literal": push_literal,
    "global": push_global,
    "set_global": set_global,
    "self": push_self,
    "nil": push_nil,
    "true": push_true,
    "false": push_false,
    "pop": take_off,
    "dup": push_again,
    "send": send,
    "super_send": super_send,
    "block": make_block,
    "jump": jump,
    "jump_false": jump_false,
    "return": return_home,
    "leave": leave,
}
