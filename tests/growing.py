"""Grows random trees of methods, and writes them in random ways."""

NAMES = ["a", "b", "c", "Total", "x1"]
UNARY = ["foo", "size", "bar2"]
SIGNS = ["+", "-", "<=", "--", "~=", ","]
KEYWORDS = ["at:", "put:", "self:", "nil:"]
TEXTS = ["a", "at:put:", "it's", "", "two words", "+", "at:put", "nil", "1a"]
NUMBERS = [0, 1, 42, -1, -42, (1 << 28) - 1, -(1 << 28)]


def grow_method(chance, names=None):
    """Returns a random tree of a method, with 0 for all places."""
    names = NAMES if names is None else names
    kind = chance.randrange(3)
    pool = chance.sample(["p", "q", "r", "s"], 4)
    if kind == 0:
        selector, count = chance.choice(UNARY), 0
    elif kind == 1:
        selector, count = chance.choice(SIGNS), 1
    else:
        count = chance.randrange(1, 4)
        selector = "".join(chance.choice(KEYWORDS) for _ in range(count))
    params = tuple((name, 0) for name in pool[:count])
    temps = tuple((name, 0) for name in chance.sample(["t", "u"], chance.randrange(3)))
    free = names + [name for name, _ in params + temps]
    return ("method", selector, params, temps, grow_statements(chance, free, [name for name, _ in temps], 4))


def grow_statements(chance, names, settable, depth):
    found = []
    for _ in range(chance.randrange(4)):
        tree = grow(chance, names, settable, depth)
        found.append(("return", tree, 0) if chance.random() < 0.25 else ("do", tree))
    return tuple(found)


def grow(chance, names, settable, depth):
    """Returns a random expression."""
    kind = chance.randrange(11) if depth > 0 else chance.randrange(4)
    if kind == 0:
        return ("int", chance.choice(NUMBERS))
    if kind == 1:
        return ("symbol", chance.choice(TEXTS))
    if kind == 2:
        return (chance.choice(["nil", "true", "false", "self"]),)
    if kind == 3:
        return ("var", chance.choice(names), 0)
    if kind == 4 and settable:
        return ("set", chance.choice(settable), grow(chance, names, settable, depth - 1), 0)
    if kind in (4, 5):
        return grow_block(chance, names, settable, depth)
    if kind == 6:
        return grow_inline(chance, names, settable, depth)
    style = chance.randrange(3)
    if style == 0:
        selector, count = chance.choice(UNARY), 0
    elif style == 1:
        selector, count = chance.choice(SIGNS), 1
    else:
        count = chance.randrange(1, 4)
        selector = "".join(chance.choice(KEYWORDS) for _ in range(count))
    arguments = tuple(grow(chance, names, settable, depth - 1) for _ in range(count))
    if chance.random() < 0.2:
        return ("super", selector, arguments, 0)
    return ("send", grow(chance, names, settable, depth - 1), selector, arguments, 0)


def grow_block(chance, names, settable, depth):
    params = tuple((name, 0) for name in chance.sample(["i", "j", "k"], chance.randrange(3)))
    temps = tuple((name, 0) for name in chance.sample(["v", "w"], chance.randrange(3)))
    hidden = [name for name, _ in params]
    inner = [name for name in settable if name not in hidden] + [name for name, _ in temps]
    free = names + hidden + [name for name, _ in temps]
    return ("block", params, temps, grow_statements(chance, free, inner, depth - 1), 0)


def grow_inline(chance, names, settable, depth):
    """Returns a send that may be coded without one."""
    selector = chance.choice(["ifTrue:", "ifFalse:", "ifTrue:ifFalse:", "whileTrue:", "ifFalse:ifTrue:"])

    def block():
        if chance.random() < 0.1:
            return grow_block(chance, names, settable, depth)
        return ("block", (), (), grow_statements(chance, names, settable, depth - 1), 0)

    receiver = block() if selector == "whileTrue:" else grow(chance, names, settable, depth - 1)
    return ("send", receiver, selector, tuple(block() for _ in range(selector.count(":"))), 0)


def blank(chance):
    """Returns something that separates two tokens."""
    return chance.choice([" ", "\n", "  ", ' "c" ', '"it\'s ["', " \n"])


class Writer:
    """Writes a tree with random blanks and needless parentheses."""

    def __init__(self, chance):
        self.chance = chance

    def join(self, parts):
        return "".join(part + blank(self.chance) for part in parts)

    def method(self, tree):
        source = self.join(self.pattern(tree[1], [name for name, _ in tree[2]]))
        if tree[3] or self.chance.random() < 0.2:
            source += self.join(["|"] + [name for name, _ in tree[3]] + ["|"])
        return source + self.statements(tree[4])

    def pattern(self, selector, names):
        if not names:
            return [selector]
        parts = []
        for keyword, name in zip(self.keywords(selector), names):
            parts += [keyword, name]
        return parts

    def keywords(self, selector):
        if ":" not in selector:
            return [selector]
        return [part + ":" for part in selector.split(":")[:-1]]

    def statements(self, statements):
        parts = []
        for statement in statements:
            text = self.free(statement[1])
            parts.append(self.join(["^", text]) if statement[0] == "return" else text)
        last = "." if parts and self.chance.random() < 0.2 else ""
        return (blank(self.chance) + "." + blank(self.chance)).join(parts) + last

    def free(self, tree):
        """Writes an expression where any may stand."""
        if self.chance.random() < 0.1:
            return "(" + self.free(tree) + ")"
        if tree[0] == "set":
            return self.join([tree[1], ":="]) + self.free(tree[2])
        if tree[0] == "send":
            return self.join([self.operand(tree[1])] + self.sent(tree[2], tree[3]))
        if tree[0] == "super":
            return self.join(["super"] + self.sent(tree[1], tree[2]))
        return self.operand(tree)

    def sent(self, selector, arguments):
        if not arguments:
            return [selector]
        parts = []
        for keyword, argument in zip(self.keywords(selector), arguments):
            parts += [keyword, self.operand(argument)]
        return parts

    def operand(self, tree):
        """Writes an expression as a primary."""
        kind = tree[0]
        if kind in ("send", "super", "set"):
            return "(" + self.free(tree) + ")"
        if kind == "block":
            return self.block(tree)
        if kind == "int":
            return str(tree[1])
        if kind == "symbol":
            return "'" + tree[1].replace("'", "''") + "'"
        return tree[1] if kind == "var" else kind

    def block(self, tree):
        parts = ["["]
        for name, _ in tree[1]:
            parts += [":", name]
        if tree[1]:
            parts.append("|")
        if tree[2]:
            parts += ["|"] + [name for name, _ in tree[2]] + ["|"]
        return self.join(parts) + self.statements(tree[3]) + "]"
