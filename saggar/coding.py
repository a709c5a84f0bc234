"""Coding: the code of a tree of a method."""

from saggar.errors import Fixed, Oversized, Twice, Unknown
from saggar.stacks import greatest_heights

MOST_LOCALS = 255


class Draft:
    """The code of a method, with what is needed to run it."""

    def __init__(self, selector, argc, count, stack, code, literals):
        self.selector = selector
        self.argc = argc
        self.locals = count
        self.stack = stack
        self.code = list(code)
        self.literals = list(literals)

    def __eq__(self, other):
        return (
            isinstance(other, Draft)
            and self.selector == other.selector
            and self.argc == other.argc
            and self.locals == other.locals
            and self.stack == other.stack
            and self.code == other.code
            and self.literals == other.literals
        )


def compile_method(tree, fields, globals_known):
    """Returns the Draft of the tree of a method."""
    coder = Coder(fields, globals_known)
    coder.method(tree)
    stacks = greatest_heights(coder.code, coder.literals)
    literals = [measured(literal, stacks) for literal in coder.literals]
    count = len(tree[2]) + len(tree[3])
    return Draft(tree[1], len(tree[2]), count, stacks[0], coder.code, literals)


def measured(literal, stacks):
    """Returns a literal, that of a block with the height of its stack."""
    if literal[0] != "block":
        return literal
    kind, argc, count, start = literal
    return (kind, argc, count, start, stacks.get(start, 0))


def declared(params, temps):
    """Returns the dict of the numbers of locals by their names."""
    indexes = {}
    for name, at in params + temps:
        if name in indexes:
            raise Twice(name, at)
        indexes[name] = len(indexes)
    if len(indexes) > MOST_LOCALS:
        raise Oversized("locals")
    return indexes


def carried_out(statements):
    """Returns the list of the statements up to the first that returns."""
    found = []
    for statement in statements:
        found.append(statement)
        if statement[0] == "return":
            return found
    return found


def returns(statements):
    """Returns True if one of the statements returns."""
    return any([statement[0] == "return" for statement in statements])


def is_plain_block(tree):
    """Returns True for a block without parameters and temporary names."""
    return tree[0] == "block" and not tree[1] and not tree[2]


class Scope:
    """The locals of a method or of a block."""

    def __init__(self, params, temps):
        self.indexes = declared(params, temps)
        self.argc = len(params)


class Coder:
    """Makes the code of one method, piece by piece."""

    def __init__(self, fields, globals_known):
        self.code = []
        self.literals = []
        # The places of the literals that are no blocks.
        self.known = {}
        # The innermost scope stands first.
        self.scopes = []
        self.fields = {name: k for k, name in enumerate(fields)}
        self.shared = {name: True for name in globals_known}

    def emit(self, op, arg=0):
        """Adds an instruction; returns its place."""
        self.code.append((op, arg))
        return len(self.code) - 1

    def land(self, jumps):
        """Lets jumps lead to the place that comes next."""
        for place in jumps:
            self.code[place] = (self.code[place][0], len(self.code))

    def literal(self, literal):
        """Returns the place of a literal, which is added if it is new."""
        if literal not in self.known:
            self.known[literal] = len(self.literals)
            self.literals.append(literal)
        return self.known[literal]

    def method(self, tree):
        """Makes the code of a method."""
        self.scopes.insert(0, Scope(tree[2], tree[3]))
        for statement in carried_out(tree[4]):
            self.statement(statement)
            if statement[0] == "do":
                self.emit("pop")
        if not returns(tree[4]):
            self.emit("self")
            self.emit("return")

    def body(self, statements):
        """Makes the code of statements that leave the last word behind."""
        for k, statement in enumerate(carried_out(statements)):
            if k > 0:
                self.emit("pop")
            self.statement(statement)
        if not statements:
            self.emit("nil")

    def statement(self, statement):
        """Makes the code of a statement, without what takes its word off."""
        self.expression(statement[1])
        if statement[0] == "return":
            self.emit("return")

    def expression(self, tree):
        """Makes the code of an expression."""
        kind = tree[0]
        if kind in ("int", "symbol"):
            self.emit("literal", self.literal(tree))
        elif kind == "var":
            op, arg = self.located(tree[1], tree[2])
            self.emit(op, arg)
        elif kind == "set":
            self.setting(tree)
        elif kind == "send":
            self.send(tree)
        elif kind == "super":
            self.emit("self")
            self.sent("super_send", tree[1], tree[2])
        elif kind == "block":
            self.block(tree)
        else:
            self.emit(kind)

    def located(self, name, at):
        """Returns the instruction that pushes what a name stands for."""
        for distance, scope in enumerate(self.scopes):
            if name in scope.indexes:
                if distance == 0:
                    return ("local", scope.indexes[name])
                return ("outer", distance * 256 + scope.indexes[name])
        if name in self.fields:
            return ("field", self.fields[name])
        if name in self.shared:
            return ("global", self.literal(("global", name)))
        raise Unknown(name, at)

    def is_param(self, name):
        """Returns True if a name stands for a parameter."""
        for scope in self.scopes:
            if name in scope.indexes:
                return scope.indexes[name] < scope.argc
        return False

    def setting(self, tree):
        """Makes the code that sets a name."""
        _, name, worth, at = tree
        self.expression(worth)
        if self.is_param(name):
            raise Fixed(name, at)
        op, arg = self.located(name, at)
        self.emit("set_" + op, arg)

    def send(self, tree):
        """Makes the code of a send, or what stands in its place."""
        _, receiver, selector, arguments, _ = tree
        if not all([is_plain_block(argument) for argument in arguments]):
            self.plain_send(tree)
        elif selector == "ifTrue:":
            self.choice(receiver, arguments[0][3], ())
        elif selector == "ifFalse:":
            self.choice(receiver, (), arguments[0][3])
        elif selector == "ifTrue:ifFalse:":
            self.choice(receiver, arguments[0][3], arguments[1][3])
        elif selector == "whileTrue:" and is_plain_block(receiver):
            self.repeat(receiver[3], arguments[0][3])
        else:
            self.plain_send(tree)

    def plain_send(self, tree):
        """Makes the code of a send that is carried out as one."""
        self.expression(tree[1])
        self.sent("send", tree[2], tree[3])

    def sent(self, op, selector, arguments):
        """Makes the code of a send behind its receiver."""
        for argument in arguments:
            self.expression(argument)
        number = self.literal(("selector", selector))
        self.emit(op, number * 16 + len(arguments))

    def choice(self, condition, chosen, other):
        """Makes the code that carries out one of two lists of statements."""
        self.expression(condition)
        test = self.emit("jump_false")
        self.body(chosen)
        over = []
        if not returns(chosen):
            over = [self.emit("jump")]
        self.land([test])
        self.body(other)
        self.land(over)

    def repeat(self, condition, statements):
        """Makes the code of a loop."""
        start = len(self.code)
        self.body(condition)
        test = []
        if not returns(condition):
            test = [self.emit("jump_false")]
        self.body(statements)
        if not returns(statements):
            self.emit("pop")
            self.emit("jump", start)
        self.land(test)
        self.emit("nil")

    def block(self, tree):
        """Makes the code that makes a block, and the body of the block."""
        _, params, temps, statements, _ = tree
        number = len(self.literals)
        # The place is kept; the literal is known when its start is.
        self.literals.append(("block",))
        self.emit("block", number)
        over = self.emit("jump")
        scope = Scope(params, temps)
        self.scopes.insert(0, scope)
        self.literals[number] = ("block", scope.argc, len(scope.indexes), len(self.code))
        self.body(statements)
        if not returns(statements):
            self.emit("leave")
        self.scopes.pop(0)
        self.land([over])
