"""Random programs: classes, methods and sources of processes that run to an end, mostly without errors."""

from saggar.printing import print_method

CLASSES = [("Point", "Object", ["x", "y"]), ("Spot", "Point", ["colour"]), ("Other", "Object", ["x", "a", "b", "c"])]
GLOBALS = ["Home", "Gate", "Total"]
METHODS = 8


def var(name):
    return ("var", name, 0)


def send(receiver, selector, *arguments):
    return ("send", receiver, selector, tuple(arguments), 0)


def put(name, tree):
    return ("set", name, tree, 0)


def do(*trees):
    return tuple(("do", tree) for tree in trees)


def block(statements, params=()):
    return ("block", tuple((name, 0) for name in params), (), tuple(statements), 0)


class Grower:
    """Grows the statements of one method."""

    def __init__(self, chance, owner, rank):
        self.chance, self.owner, self.rank = chance, owner, rank
        self.fields = {"Object": [], "Point": ["x", "y"], "Spot": ["x", "y", "colour"], "Other": ["x", "a", "b", "c"]}[owner]
        self.params = []
        self.loops = 0

    def pick(self, *makers):
        return self.chance.choice(makers)()

    def small(self):
        return ("int", self.chance.choice([0, 1, 2, 3, -1, -7, 100, 20000]))

    def number(self, depth):
        """Returns an expression that mostly has a number as its value."""
        if depth <= 0 or self.chance.random() < 0.3:
            return self.pick(self.small, lambda: var("t"), lambda: var("u"))
        selector = self.chance.choice(["+", "+", "-", "*", "//", "mod:", "rem:"])
        if selector in ("//", "mod:", "rem:") and self.chance.random() < 0.9:
            return send(self.number(depth - 1), selector, ("int", self.chance.choice([1, 2, 3, -1, -2, -7])))
        return send(self.number(depth - 1), selector, self.number(depth - 1))

    def truth(self, depth):
        kind = self.chance.randrange(5)
        if kind == 0 or depth <= 0:
            return (self.chance.choice(["true", "false"]),)
        if kind == 1:
            return send(self.any(depth - 1), self.chance.choice(["=", "=="]), self.any(depth - 1))
        return send(self.number(depth - 1), self.chance.choice(["<", ">"]), self.number(depth - 1))

    def thing(self, depth):
        """Returns an expression that mostly has an object as its value."""
        names = ["o", "p"] + ["self"] * (self.owner != "Object")
        name = self.chance.choice(names)
        return ("self",) if name == "self" else var(name)

    def any(self, depth):
        if depth <= 0:
            leaves = [("nil",), ("true",), ("symbol", "sym"), ("self",), var("Home"), var("t"), var("o")]
            return self.chance.choice(leaves + [var(name) for name in self.fields + self.params])
        return self.pick(
            lambda: self.number(depth), lambda: self.truth(depth), lambda: self.thing(depth), lambda: self.any(0),
            lambda: self.call(depth), lambda: self.made(), lambda: self.choice(depth), lambda: self.carried_out(depth),
            lambda: send(self.any(depth - 1), "class"), lambda: send(self.any(depth - 1), "show"))

    def made(self):
        return self.pick(
            lambda: send(var(self.chance.choice(["Point", "Spot", "Other", "Object", "Association"])), "new"),
            lambda: send(var("Array"), "new:", ("int", self.chance.randrange(4))), lambda: send(var("Gate"), "signal"))

    def call(self, depth):
        """Returns a send of a selector of a method with a lower number."""
        if self.rank == 0:
            return self.number_or_array(depth)
        k = self.chance.randrange(self.rank)
        arguments = [self.any(depth - 1) for _ in range(k % 3)]
        if self.chance.random() < (0.25 if self.owner != "Object" else 0.01):
            return ("super", selector_of(k), tuple(arguments), 0)
        return send(self.any(depth - 1), selector_of(k), *arguments)

    def number_or_array(self, depth):
        if self.chance.random() < 0.5:
            return self.number(depth)
        if self.chance.random() < 0.5:
            return send(var("r"), "at:", ("int", self.chance.choice([1, 2, 2, 1, 3])))
        return send(var("r"), "at:put:", ("int", self.chance.choice([1, 2, 1, 2, 0])), self.any(depth - 1))

    def choice(self, depth):
        selector = self.chance.choice(["ifTrue:", "ifFalse:", "ifTrue:ifFalse:"])
        return send(self.truth(depth - 1), selector, *[block(self.statements(depth - 1)) for _ in range(selector.count(":"))])

    def carried_out(self, depth):
        """Returns an expression in which a block is carried out."""
        return self.pick(
            lambda: send(block(self.statements(depth - 1)), "value"),
            lambda: send(block(self.statements(depth - 1)), "ensure:", block(self.statements(depth - 1))),
            lambda: send(block(self.statements(depth - 1)), "ensure:", block(self.statements(depth - 1))),
            lambda: send(block(self.statements(depth - 1), ["e"]), "value:", self.any(depth - 1)),
            lambda: send(block(self.statements(depth - 1), ["e", "g"]), "value:value:", self.any(0), self.any(0)),
            lambda: send(block(self.statements(depth - 1)), "fork"),
            lambda: put("k", block(self.statements(depth - 1))),
            lambda: send(var("k"), "value"), lambda: send(var("k"), "numArgs"))

    def loop(self, depth):
        """Returns a loop that ends; its number is set nowhere else."""
        name = "n" + str(self.loops)
        self.loops += 1
        body = do(put(name, send(var(name), "+", ("int", 1)))) + tuple(self.statements(depth - 1))
        test = do(send(var(name), "<", ("int", self.chance.randrange(1, 4))))
        return [("do", put(name, ("int", 0))), ("do", send(block(test), "whileTrue:", block(body)))]

    def statements(self, depth):
        found = []
        for _ in range(self.chance.randrange(1, 4) if depth < 4 else self.chance.randrange(5, 12)):
            if depth > 1 and self.loops < 2 and self.chance.random() < 0.1:
                found += self.loop(depth)
            else:
                found.append(self.statement(depth))
        return found

    def statement(self, depth):
        if depth < 4 and self.chance.random() < 0.08:
            return ("return", self.any(depth - 1), 0)
        if depth <= 0:
            return ("do", self.pick(lambda: send(self.any(0), "show"), lambda: self.any(0), lambda: self.rare()))
        targets = ["Home", "Total"] + self.fields
        return ("do", self.pick(
            lambda: send(self.any(depth - 1), "show"), lambda: send(self.any(depth - 1), "show"),
            lambda: put(self.chance.choice(["t", "u"]), self.number(depth - 1)), lambda: self.any(depth),
            lambda: put(self.chance.choice(targets), self.any(depth - 1)),
            lambda: put(self.chance.choice(["o", "p"]), self.made()),
            lambda: send(("nil",), "yield"), lambda: self.carried_out(depth), lambda: self.choice(depth),
            lambda: self.number_or_array(depth), lambda: self.rare()))

    def rare(self):
        return self.pick(
            lambda: send(self.thing(0), "become:", self.thing(0)), lambda: send(var("Gate"), "wait"),
            lambda: send(var("Gate"), "signal"), lambda: put("o", var("r")), lambda: self.wrong())

    def wrong(self):
        """Returns an expression that may end the process with an error."""
        if self.chance.random() < 0.7:
            return self.small()
        return self.pick(
            lambda: put("Point", ("nil",)), lambda: send(self.any(0), "foo"), lambda: send(("nil",), "become:", var("o")),
            lambda: send(var("Class"), "new"), lambda: send(var("k"), "value:", ("nil",)), lambda: send(var("t"), "+", ("nil",)),
            lambda: send(var("o"), "ifTrue:", block([])), lambda: send(("int", 1), "//", ("int", 0)))

    def method(self, selector, count):
        self.params = ["q", "w"][:count]
        first = do(put("t", ("int", 5)), put("u", ("int", -3)), put("o", send(var("Point"), "new")),
                   put("p", send(var("Spot"), "new")), put("r", send(var("Array"), "new:", ("int", 2))), put("k", block([])))
        statements = first + tuple(self.statements(4))
        if self.chance.random() < 0.7:
            statements += (("return", self.any(2), 0),)
        names = ["t", "u", "o", "p", "r", "k"] + ["n" + str(k) for k in range(self.loops)]
        temps = tuple((name, 0) for name in names)
        return print_method(("method", selector, tuple((name, 0) for name in self.params), temps, statements))


def grow_source(chance, owner, rank, selector, count):
    """Returns the source of a method that is not too long."""
    while True:
        source = Grower(chance, owner, rank).method(selector, count)
        if len(source) < 2500:
            return source


def selector_of(k):
    """Returns the selector of the method with a number, which tells its arguments."""
    return ["m" + str(k), "m" + str(k) + ":", "m" + str(k) + ":and:"][k % 3]


def grow_program(chance):
    """Returns the pairs of a class and a source of a method, and the sources of the processes."""
    methods = []
    for k in range(METHODS):
        # Each object finds some method; some classes have one of their own.
        for owner in ["Object"] + chance.sample(["Point", "Spot", "Other"], chance.randrange(3)):
            methods.append((owner, grow_source(chance, owner, k, selector_of(k), k % 3)))
    sources = [grow_source(chance, "Object", METHODS, "start", 0) for _ in range(chance.randrange(1, 4))]
    return methods, ["gate Gate := Semaphore new"] + sources
