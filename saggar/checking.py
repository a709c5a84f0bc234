"""Checking: the first fault of code, whoever made it."""

from saggar.lexing import arity
from saggar.ops import BARE, MOST_ARG, OPS
from saggar.stacks import SENDS, change_of, places_behind
from saggar.words import fits

MOST_ARGC = 15
MOST_LOCALS = 255
MOST_STACK = 10000
JUMPS = ("jump", "jump_false")
# The ops that take one word off the stack, or need one.
ONE_WORD = ("set_local", "set_outer", "set_field", "set_global", "pop", "dup", "jump_false", "return", "leave")
# The kinds of literals that an op may have.
KINDS = {"literal": ("int", "symbol"), "global": ("global",), "set_global": ("global",), "block": ("block",)}


def check_code(draft, fields):
    """Returns None, or the first fault of a draft for a number of fields."""
    if not is_head(draft):
        return ("head", 0)
    for k, literal in enumerate(draft.literals):
        if not is_literal(literal, len(draft.code)):
            return ("literal", k)
    return Checker(draft, fields).fault()


def heights(draft):
    """Returns the dict of the heights at all places that can be reached."""
    # The draft has no fault, so each field that it names is there.
    checker = Checker(draft, MOST_ARG + 1)
    checker.fault()
    return {place: height for place, (_, height) in checker.reached.items()}


def is_head(draft):
    """Returns True if what a draft tells beside code and literals is in order."""
    if draft.selector == "" or draft.argc != arity(draft.selector):
        return False
    if not draft.argc <= draft.locals <= MOST_LOCALS:
        return False
    return 0 <= draft.stack <= MOST_STACK and len(draft.code) > 0


def is_literal(literal, length):
    """Returns True if a literal is in order, for the length of the code."""
    kind = literal[0]
    if kind == "block":
        return is_block(literal[1:], length)
    if len(literal) != 2:
        return False
    if kind == "int":
        return isinstance(literal[1], int) and fits(literal[1])
    if kind == "selector" and literal[1] == "":
        return False
    return kind in ("symbol", "global", "selector") and isinstance(literal[1], str)


def is_block(numbers, length):
    """Returns True if the numbers of the literal of a block are in order."""
    if len(numbers) != 4 or not all([isinstance(number, int) for number in numbers]):
        return False
    argc, count, start, stack = numbers
    if not (0 <= argc <= MOST_ARGC and argc <= count <= MOST_LOCALS):
        return False
    return 0 <= start < length and 0 <= stack <= MOST_STACK


def needed(op, arg):
    """Returns how many words an instruction must find on the stack."""
    if op in SENDS:
        return arg % 16 + 1
    if op in ONE_WORD:
        return 1
    return 0


class Routine:
    """The method, or a block."""

    def __init__(self, start, count, stack, around):
        self.start = start
        self.locals = count
        self.stack = stack
        # The numbers of locals of the routines around, the innermost first.
        self.around = around


class Checker:
    """Follows the routines of a draft whose head and literals are in order."""

    def __init__(self, draft, fields):
        self.draft = draft
        self.fields = fields
        self.routines = [Routine(0, draft.locals, draft.stack, [])]
        # The number of the routine, and the height, at each reached place.
        self.reached = {}
        # The number of the routine that used the literal of a block.
        self.makers = {}

    def fault(self):
        """Returns None, or the first fault of all routines."""
        number = 0
        # Checking a routine may find further ones.
        while number < len(self.routines):
            found = self.routine_fault(number)
            if found is not None:
                return found
            number = number + 1
        return None

    def routine_fault(self, number):
        """Returns None, or the first fault of a routine."""
        waiting = [(self.routines[number].start, 0)]
        at = 0
        while at < len(waiting):
            place, height = waiting[at]
            at = at + 1
            if self.reached.get(place) != (number, height):
                why = self.place_fault(number, place, height)
                if why is not None:
                    return (why, place)
                self.reached[place] = (number, height)
                waiting.extend(self.behind(place, height))
        return None

    def behind(self, place, height):
        """Returns the list of the places that come next, with the height."""
        op, arg = self.draft.code[place]
        return [(following, height + change_of(op, arg)) for following in places_behind(op, arg, place)]

    def place_fault(self, number, place, height):
        """Returns None, or what is wrong at a place that is new or differs."""
        if place >= len(self.draft.code):
            return "end"
        if place in self.reached:
            return "height" if self.reached[place][0] == number else "shared"
        op, arg = self.draft.code[place]
        routine = self.routines[number]
        if op not in OPS:
            return "op"
        if not self.is_arg(op, arg, routine):
            return "arg"
        if height < needed(op, arg):
            return "under"
        if op == "leave" and number == 0:
            return "leave"
        if height + change_of(op, arg) > routine.stack:
            return "over"
        if op == "block":
            return self.block_fault(number, arg)
        return None

    def is_arg(self, op, arg, routine):
        """Returns True if an op may have an arg in a routine."""
        if op in BARE:
            return arg == 0
        if not 0 <= arg <= MOST_ARG:
            return False
        if op in JUMPS:
            return True
        if op in ("local", "set_local"):
            return arg < routine.locals
        if op in ("field", "set_field"):
            return arg < self.fields
        if op in ("outer", "set_outer"):
            distance = arg // 256
            return 1 <= distance <= len(routine.around) and arg % 256 < routine.around[distance - 1]
        if op in SENDS:
            return self.kind_at(arg // 16) == "selector" and arity(self.draft.literals[arg // 16][1]) == arg % 16
        return self.kind_at(arg) in KINDS[op]

    def kind_at(self, k):
        """Returns the kind of a literal, "" if there is none."""
        if k >= len(self.draft.literals):
            return ""
        return self.draft.literals[k][0]

    def block_fault(self, number, k):
        """Returns None, or what is wrong with making a block; notes its routine."""
        if k in self.makers:
            return None if self.makers[k] == number else "shared"
        self.makers[k] = number
        _, _, count, start, stack = self.draft.literals[k]
        maker = self.routines[number]
        self.routines.append(Routine(start, count, stack, [maker.locals] + maker.around))
        return None
