"""Returning: answers from contexts, and the guards on their way."""

from saggar.contexts import FIXED, METHOD, PC, SENDER, TOP, drop, number_in, push
from saggar.errors import Trouble
from saggar.processes import end_with_value, go_on
from saggar.words import NIL, of_int

ENSURE = 8
ENSURE_SOURCE = "ensure: aBlock | result home | result := self value. aBlock value. ^self finish: result for: home"
# A context of the method is a guard while its place is the first of these;
# it goes on at the second one if it would be left.
GUARDING = 2
LEAVING = 4
# The locals of the method.
RESULT = 1
HOME = 2


def answer(image, context, word):
    """Answers a word from a context to its sender."""
    sender = image.get(context, SENDER)
    if sender == NIL:
        end_with_value(image, word)
    else:
        push(image, sender, word)
        go_on(image, sender)


def return_from(image, context, home, word):
    """Answers a word from a home, or lets the first guard before it go on."""
    guard = NIL
    while context != home:
        if context == NIL:
            raise Trouble(("gone",))
        if guard == NIL and is_guard(image, context):
            guard = context
        context = image.get(context, SENDER)
    if guard == NIL:
        answer(image, home, word)
    else:
        leave_guard(image, guard, home, word)


def is_guard(image, context):
    """Returns True while a context of ensure: carries out the first block."""
    return image.get(context, METHOD) == image.space.root(ENSURE) and number_in(image, context, PC) == GUARDING


def leave_guard(image, guard, home, word):
    """Lets a guard carry out its second block before it is left."""
    drop(image, guard, number_in(image, guard, TOP))
    image.put(guard, PC, of_int(LEAVING))
    image.put(guard, FIXED + RESULT, word)
    image.put(guard, FIXED + HOME, home)
    go_on(image, guard)
