"""A second reading of chapters 16 to 18: trees are walked, without code, contexts or a store.

Words are tuples such as ("int", 3), as they look from outside, or objects of the class Thing.
"""

from saggar.kernel import KERNEL
from saggar.parsing import parse_method

NIL, TRUE, FALSE = ("nil",), ("true",), ("false",)
LIMIT = 1 << 28
INLINE = ("ifTrue:", "ifFalse:", "ifTrue:ifFalse:")


class Weary(Exception):
    """More has been walked than is allowed."""


class Failure(Exception):
    """An error of a process."""


class Answer(Exception):
    """The answer of a method from within a block."""

    def __init__(self, home, word):
        Exception.__init__(self)
        self.home, self.word = home, word


class Thing:
    """An object: what it is may be exchanged."""

    def __init__(self, kind, slots, more=None):
        self.kind, self.slots, self.more = kind, slots, more


class Frame:
    """The names of a method or of a block, and the method that it is in."""

    def __init__(self, names, outer, home, receiver, owner):
        self.names, self.outer, self.home, self.receiver, self.owner = names, outer, home or self, receiver, owner


def truth(value):
    return TRUE if value else FALSE


def integer(word):
    if isinstance(word, Thing) or word[0] != "int":
        raise Failure("integer")
    return word[1]


def small(number):
    if not -LIMIT <= number < LIMIT:
        raise Failure("overflow")
    return ("int", number)


class Oracle:
    def __init__(self, budget=20000):
        self.trace, self.budget = [], budget
        self.classes = {name: (None if name == "Object" else "Object", [], {}) for name in KERNEL}
        self.shared = {}
        for name in KERNEL:
            self.shared[name] = Thing("Class", [], name)
        self.ready, self.count, self.stack = [], 0, None

    def define_class(self, name, superclass, fields):
        self.classes[name] = (superclass, fields, {})
        self.shared[name] = Thing("Class", [], name)

    def install(self, name, source):
        tree = parse_method(source)
        self.classes[name][2][tree[1]] = tree

    def fields(self, name):
        return [] if name is None else self.fields(self.classes[name][0]) + self.classes[name][1]

    def is_below(self, name, other):
        return name == other or (name is not None and self.is_below(self.classes[name][0], other))

    def kind(self, word):
        if isinstance(word, Thing):
            return word.kind
        return {"int": "Integer", "symbol": "Symbol", "nil": "Undefined", "true": "True", "false": "False"}[word[0]]

    def shown(self, word):
        return ("object", word.kind) if isinstance(word, Thing) else word

    # Processes are generators, which yield when another one shall run.

    def spawn(self, walk):
        self.count += 1
        process = [self.count, walk, []]
        self.ready.append(process)
        return Thing("Process", [], process)

    def start(self, source):
        tree = parse_method(source)
        self.spawn(self.method("Undefined", tree, NIL, []))

    def run(self, choices):
        choices = list(choices)
        while self.ready:
            number = choices.pop(0) if choices else 0
            process = self.ready.pop(number % len(self.ready))
            self.process, self.stack = process, process[2]
            try:
                what = next(process[1])
            except StopIteration as end:
                self.trace.append(("end", process[0], ("value", self.shown(end.value))))
            except Failure as failure:
                self.trace.append(("end", process[0], ("error",) + failure.args))
            else:
                (self.ready if what is None else what).append(process)

    # Walking.

    def method(self, owner, tree, receiver, arguments):
        frame = Frame({}, None, None, receiver, owner)
        for (name, _), word in zip(tree[2], arguments):
            frame.names[name] = word
        for name, _ in tree[3]:
            frame.names[name] = NIL
        # The frames of the methods that this process carries out.
        stack = self.stack
        stack.append(frame)
        try:
            yield from self.statements(frame, tree[4])
            return receiver
        except Answer as answer:
            if answer.home is not frame:
                raise
            return answer.word
        finally:
            del stack[stack.index(frame):]

    def statements(self, frame, statements):
        word = NIL
        for statement in statements:
            word = yield from self.value(frame, statement[1])
            if statement[0] == "return":
                if frame.home not in self.stack:
                    raise Failure("gone")
                raise Answer(frame.home, word)
        return word

    def value(self, frame, tree):
        self.budget -= 1
        if self.budget < 0:
            raise Weary()
        kind = tree[0]
        if kind in ("int", "symbol", "nil", "true", "false"):
            return tree
        if kind == "self":
            return frame.receiver
        if kind == "block":
            return Thing("Block", [], (frame, tree))
        if kind == "var":
            return self.name(frame, tree[1])
        if kind == "set":
            word = yield from self.value(frame, tree[2])
            self.set_name(frame, tree[1], word)
            return word
        if kind == "send" and self.is_inline(tree):
            return (yield from self.inline(frame, tree))
        receiver, selector, arguments = tree[1:4] if kind == "send" else (("self",),) + tree[1:3]
        receiver = yield from self.value(frame, receiver)
        words = []
        for argument in arguments:
            words.append((yield from self.value(frame, argument)))
        start = self.kind(receiver) if kind == "send" else self.classes[frame.home.owner][0]
        return (yield from self.send(frame, start, receiver, selector, words))

    def scope_of(self, frame, name):
        while frame is not None and name not in frame.names:
            frame = frame.outer
        return frame

    def field(self, frame, name):
        """Returns the index of a field of the receiver, or None."""
        fields = self.fields(frame.home.owner)
        if name not in fields:
            return None
        if not self.is_below(self.kind(frame.receiver), frame.home.owner):
            raise Failure("receiver")
        return fields.index(name)

    def name(self, frame, name):
        scope = self.scope_of(frame, name)
        if scope is not None:
            return scope.names[name]
        index = self.field(frame, name)
        return self.shared[name] if index is None else frame.receiver.slots[index]

    def set_name(self, frame, name, word):
        scope = self.scope_of(frame, name)
        if scope is not None:
            scope.names[name] = word
            return
        index = self.field(frame, name)
        if index is not None:
            frame.receiver.slots[index] = word
        elif name in self.classes:
            raise Failure("class")
        else:
            self.shared[name] = word

    def is_inline(self, tree):
        plain = [part[0] == "block" and part[1] == part[2] == () for part in tree[3]]
        if tree[2] == "whileTrue:":
            return all(plain) and tree[1][0] == "block" and tree[1][1] == tree[1][2] == ()
        return tree[2] in INLINE and all(plain)

    def inline(self, frame, tree):
        if tree[2] == "whileTrue:":
            while (yield from self.test(self.statements(frame, tree[1][3]))):
                yield from self.statements(frame, tree[3][0][3])
            return NIL
        is_true = yield from self.test(self.value(frame, tree[1]))
        branches = {"ifTrue:": (0, None), "ifFalse:": (None, 0), "ifTrue:ifFalse:": (0, 1)}[tree[2]]
        branch = branches[0 if is_true else 1]
        return NIL if branch is None else (yield from self.statements(frame, tree[3][branch][3]))

    def test(self, walk):
        word = yield from walk
        if word not in (TRUE, FALSE):
            raise Failure("test")
        return word == TRUE

    def send(self, frame, start, receiver, selector, words):
        name = start
        while name is not None:
            if selector in self.classes[name][2]:
                return (yield from self.method(name, self.classes[name][2][selector], receiver, words))
            primitive = PRIMITIVES.get((name, selector))
            if primitive is not None:
                return (yield from primitive(self, receiver, *words))
            name = self.classes[name][0]
        raise Failure("unknown", selector)

    # What needs more than the words.

    def call(self, block, *words):
        outer, tree = block.more
        if len(tree[1]) != len(words):
            raise Failure("arguments")
        names = {name: word for (name, _), word in zip(tree[1], words)}
        names.update({name: NIL for name, _ in tree[2]})
        frame = Frame(names, outer, outer.home, outer.receiver, outer.home.owner)
        return (yield from self.statements(frame, tree[3]))

    def ensure(self, block, other):
        try:
            word = yield from self.call(block)
        except Answer:
            yield from self.second(other)
            raise
        yield from self.second(other)
        return word

    def second(self, other):
        yield from self.send(None, self.kind(other), other, "value", [])

    def fork(self, block):
        if block.more[1][1]:
            raise Failure("arguments")
        return self.spawn(self.call(block))
        yield

    def show(self, word):
        self.trace.append(("show", self.process[0], self.shown(word)))
        return word
        yield

    def give_way(self, word):
        yield None
        return word

    def wait(self, semaphore):
        if semaphore.slots[0] > 0:
            semaphore.slots[0] -= 1
        else:
            yield semaphore.more
        return semaphore

    def signal(self, semaphore):
        if semaphore.more:
            self.ready.append(semaphore.more.pop(0))
        else:
            semaphore.slots[0] += 1
        return semaphore
        yield

    def new(self, word):
        name = word.more
        if name == "Semaphore":
            return Thing(name, [0], [])
        if name in KERNEL and name not in ("Object", "Array", "Association"):
            raise Failure("new")
        return Thing(name, [NIL] * (2 if name == "Association" else len(self.fields(name))))
        yield

    def new_array(self, word, size):
        if word.more != "Array" or isinstance(size, Thing) or size[0] != "int" or not 0 <= size[1] <= 10000:
            raise Failure("new")
        return Thing("Array", [NIL] * size[1])
        yield

    def become(self, one, other):
        for word in (one, other):
            if not isinstance(word, Thing) or word.kind in KERNEL and word.kind not in ("Object", "Array", "Association"):
                raise Failure("become")
        one.kind, one.slots, other.kind, other.slots = other.kind, other.slots, one.kind, one.slots
        return one
        yield

    def index(self, array, word):
        if isinstance(word, Thing) or word[0] != "int" or not 1 <= word[1] <= len(array.slots):
            raise Failure("index")
        return word[1] - 1

    def at(self, array, index):
        return array.slots[self.index(array, index)]
        yield

    def at_put(self, array, index, word):
        array.slots[self.index(array, index)] = word
        return word
        yield


def plain(function):
    """Returns a primitive that needs nothing but its words."""
    def primitive(oracle, *words):
        return function(*words)
        yield
    return primitive


def dividing(function):
    def divided(one, other):
        number = integer(other)
        if number == 0:
            raise Failure("zero")
        return small(function(one[1], number))
    return plain(divided)


def rest_of(one, other):
    """Returns the rest of the quotient that is rounded towards 0."""
    quotient = abs(one) // abs(other) * (1 if (one < 0) == (other < 0) else -1)
    return one - quotient * other


def same(one, other):
    return truth(one is other if isinstance(one, Thing) or isinstance(other, Thing) else one == other)


def class_of(oracle, word):
    return oracle.shared[oracle.kind(word)]
    yield


PRIMITIVES = {
    ("Integer", "+"): plain(lambda one, other: small(one[1] + integer(other))),
    ("Integer", "-"): plain(lambda one, other: small(one[1] - integer(other))),
    ("Integer", "*"): plain(lambda one, other: small(one[1] * integer(other))),
    ("Integer", "//"): dividing(lambda one, other: one // other),
    ("Integer", "mod:"): dividing(lambda one, other: one % other),
    ("Integer", "rem:"): dividing(rest_of),
    ("Integer", "<"): plain(lambda one, other: truth(one[1] < integer(other))),
    ("Integer", ">"): plain(lambda one, other: truth(one[1] > integer(other))),
    ("Object", "="): plain(same),
    ("Object", "=="): plain(same),
    ("Object", "class"): class_of,
    ("Object", "show"): Oracle.show,
    ("Object", "yield"): Oracle.give_way,
    ("Object", "become:"): Oracle.become,
    ("Class", "new"): Oracle.new,
    ("Class", "new:"): Oracle.new_array,
    ("Array", "at:"): Oracle.at,
    ("Array", "at:put:"): Oracle.at_put,
    ("Array", "size"): plain(lambda array: ("int", len(array.slots))),
    ("Block", "value"): Oracle.call,
    ("Block", "value:"): Oracle.call,
    ("Block", "value:value:"): Oracle.call,
    ("Block", "value:value:value:"): Oracle.call,
    ("Block", "numArgs"): plain(lambda block: ("int", len(block.more[1][1]))),
    ("Block", "fork"): Oracle.fork,
    ("Block", "ensure:"): Oracle.ensure,
    ("Semaphore", "wait"): Oracle.wait,
    ("Semaphore", "signal"): Oracle.signal,
}
