"""Routines: the code of a method, and of the blocks in it, as its objects tell it."""

from saggar.errors import BadCode, BadWord
from saggar.listing import SPAN, instruction_of
from saggar.ops import OPS
from saggar.slots import DESCRIPTOR_LOCALS, DESCRIPTOR_SIZE, DESCRIPTOR_STACK, DESCRIPTOR_START
from saggar.slots import METHOD_CODE, METHOD_LITERALS, METHOD_LOCALS, METHOD_SIZE, METHOD_STACK
from saggar.stacks import change_of, places_behind
from saggar.words import NIL, int_of


class Routine:
    """The code of a method, or of a block."""

    def __init__(self, descriptor, maker, count, stack):
        # The word of the literal of a block, or nil for a method.
        self.descriptor = descriptor
        # That of the routine in which the block is made; None for a method.
        self.maker = maker
        self.locals = count
        self.stack = stack
        # The height at each place that is reached.
        self.heights = {}


class Tracer:
    """Follows the routines of a method; raises BadCode or BadWord if they lead nowhere."""

    def __init__(self, image, method):
        self.image = image
        row = slots_of(image, method, "Method", METHOD_SIZE)
        self.literals = slots_of(image, row[METHOD_LITERALS], "Array", None)
        self.code = [instruction_in(word) for word in slots_of(image, row[METHOD_CODE], "Code", None)]
        self.whole = Routine(NIL, None, int_of(row[METHOD_LOCALS]), int_of(row[METHOD_STACK]))

    def routines(self):
        """Returns the dict of the routines by their descriptors."""
        found = {}
        waiting = [(self.whole, 0)]
        while waiting:
            routine, start = waiting.pop()
            if routine.descriptor not in found:
                found[routine.descriptor] = routine
                waiting.extend(self.follow(routine, start))
        return found

    def follow(self, routine, start):
        """Finds the heights of a routine; returns the blocks that it makes, with their starts."""
        made = {}
        waiting = [(start, 0)]
        while waiting:
            place, height = waiting.pop()
            if place not in routine.heights:
                if not 0 <= place < len(self.code):
                    raise BadCode("end", place)
                routine.heights[place] = height
                op, arg = self.code[place]
                if op == "block":
                    made[arg] = self.block_at(arg, routine)
                for following in places_behind(op, arg, place):
                    waiting.append((following, height + change_of(op, arg)))
        return list(made.values())

    def block_at(self, k, maker):
        """Returns the routine of the block of a literal, and its start."""
        if k >= len(self.literals):
            raise BadCode("arg", k)
        row = slots_of(self.image, self.literals[k], "Array", DESCRIPTOR_SIZE)
        count = int_of(row[DESCRIPTOR_LOCALS])
        routine = Routine(self.literals[k], maker.descriptor, count, int_of(row[DESCRIPTOR_STACK]))
        return (routine, int_of(row[DESCRIPTOR_START]))


def routines_of(image, method):
    """Returns the dict of the routines of a method by their descriptors.

    It is empty if the method is none. A method that is not in order, which
    nothing may reach, has none, too.
    """
    try:
        return Tracer(image, method).routines()
    except (BadCode, BadWord):
        return {}


def slots_of(image, word, name, size):
    """Returns the slots of an object that must be of a kernel class."""
    if not image.is_a(word, name):
        raise BadWord(word)
    row = image.row(word)
    if size is not None and len(row) != size:
        raise BadWord(word)
    return row


def instruction_in(word):
    """Returns the instruction of a slot of code."""
    number = int_of(word)
    if not 0 <= number < len(OPS) * SPAN:
        raise BadWord(word)
    return instruction_of(number)
