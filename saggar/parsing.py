"""Parsing: the tree of a source of a method."""

from saggar.errors import Malformed, Oversized
from saggar.lexing import tokens_of
from saggar.words import GREATEST, LEAST

DEEPEST = 20
MOST_ARGUMENTS = 15
MOST_LEVELS = 40
RESERVED = ("nil", "true", "false", "self", "super")
# What stands for the receiver of a send until its selector is read.
SUPER = ("super",)


def parse_method(source):
    """Returns the tree of a source of a method."""
    tree = Parser(source).method()
    if levels_of(tree) > MOST_LEVELS:
        raise Oversized("levels")
    return tree


def levels_of(tree):
    """Returns the number of levels of the tree of a method."""
    deepest = 0
    # A loop, not recursion: a source may hold far more levels than allowed.
    waiting = [(expression, 1) for expression in expressions_of(tree[4])]
    while waiting:
        expression, level = waiting.pop()
        deepest = max(deepest, level)
        for part in parts_of(expression):
            waiting.append((part, level + 1))
    return deepest


def expressions_of(statements):
    """Returns the list of the expressions of some statements."""
    return [statement[1] for statement in statements]


def parts_of(expression):
    """Returns the list of the expressions directly within one."""
    kind = expression[0]
    if kind == "send":
        return [expression[1]] + list(expression[3])
    if kind == "super":
        return list(expression[2])
    if kind == "set":
        return [expression[2]]
    if kind == "block":
        return expressions_of(expression[3])
    return []


def without_places(tree):
    """Returns the tree of a method with all places replaced by 0."""
    names = placeless_names(tree[2])
    temps = placeless_names(tree[3])
    return ("method", tree[1], names, temps, placeless_statements(tree[4]))


def placeless_names(pairs):
    """Returns pairs of names and places with 0 for the places."""
    return tuple([(name, 0) for name, _ in pairs])


def placeless_statements(statements):
    """Returns statements with 0 for all places."""
    found = []
    for statement in statements:
        expression = placeless(statement[1])
        if statement[0] == "return":
            found.append(("return", expression, 0))
        else:
            found.append(("do", expression))
    return tuple(found)


def placeless(tree):
    """Returns an expression with 0 for all places."""
    kind = tree[0]
    if kind == "var":
        return ("var", tree[1], 0)
    if kind == "set":
        return ("set", tree[1], placeless(tree[2]), 0)
    if kind == "send":
        arguments = tuple([placeless(part) for part in tree[3]])
        return ("send", placeless(tree[1]), tree[2], arguments, 0)
    if kind == "super":
        return ("super", tree[1], tuple([placeless(part) for part in tree[2]]), 0)
    if kind == "block":
        names = placeless_names(tree[1])
        temps = placeless_names(tree[2])
        return ("block", names, temps, placeless_statements(tree[3]), 0)
    return tree


def sent(receiver, selector, arguments, place):
    """Returns the tree of a send."""
    if receiver == SUPER:
        return ("super", selector, tuple(arguments), place)
    return ("send", receiver, selector, tuple(arguments), place)


class Parser:
    """Reads the tokens of a source from left to right."""

    def __init__(self, source):
        self.tokens = tokens_of(source) + [(len(source), "end", "")]
        self.position = 0
        # How many brackets and parentheses are not closed.
        self.depth = 0

    def place(self):
        """Returns the place of the token that comes next."""
        return self.tokens[self.position][0]

    def kind(self):
        """Returns the kind of the token that comes next."""
        return self.tokens[self.position][1]

    def value(self):
        """Returns the value of the token that comes next."""
        return self.tokens[self.position][2]

    def take(self):
        """Goes on behind a token; returns its value."""
        value = self.value()
        self.position = self.position + 1
        return value

    def at_mark(self, mark):
        """Returns True if a certain mark comes next."""
        return self.kind() == "mark" and self.value() == mark

    def at_free_name(self):
        """Returns True if a name that is not reserved comes next."""
        return self.kind() == "name" and self.value() not in RESERVED

    def at_target(self):
        """Returns True if a name and the mark that sets it come next."""
        behind = self.tokens[self.position + 1:self.position + 2]
        return self.at_free_name() and behind[0][1:] == ("mark", ":=")

    def take_mark(self, mark):
        """Goes on behind a mark that must come next."""
        if not self.at_mark(mark):
            raise Malformed(self.place())
        self.take()

    def take_name(self):
        """Goes on behind a name; returns the pair of it and its place."""
        if not self.at_free_name():
            raise Malformed(self.place())
        place = self.place()
        return (self.take(), place)

    def take_opening(self):
        """Goes on behind a bracket or a parenthesis that opens."""
        if self.depth == DEEPEST:
            raise Oversized("depth")
        self.depth = self.depth + 1
        self.take()

    def take_closing(self, mark):
        """Goes on behind the mark that closes what was opened last."""
        self.take_mark(mark)
        self.depth = self.depth - 1

    def method(self):
        """Reads the whole source of a method."""
        selector, params = self.pattern()
        temps = self.temps()
        statements = self.statements()
        if self.kind() != "end":
            raise Malformed(self.place())
        return ("method", selector, params, temps, statements)

    def pattern(self):
        """Reads a pattern; returns the selector and the parameters."""
        if self.kind() == "sign":
            selector = self.take()
            return selector, (self.take_name(),)
        if self.kind() == "keyword":
            return self.keyword_pattern()
        name, _ = self.take_name()
        return name, ()

    def keyword_pattern(self):
        """Reads a pattern of keywords and names."""
        keywords = []
        params = []
        while self.kind() == "keyword":
            if len(params) == MOST_ARGUMENTS:
                raise Oversized("arguments")
            keywords.append(self.take())
            params.append(self.take_name())
        return "".join(keywords), tuple(params)

    def temps(self):
        """Reads temporary names between bars, if there are any."""
        names = []
        if self.at_mark("|"):
            self.take()
            while self.kind() == "name":
                names.append(self.take_name())
            self.take_mark("|")
        return tuple(names)

    def statements(self):
        """Reads statements up to the end of a block or of the source."""
        found = []
        while self.kind() != "end" and not self.at_mark("]"):
            found.append(self.statement())
            if not self.at_mark("."):
                return tuple(found)
            self.take()
        return tuple(found)

    def statement(self):
        """Reads a statement."""
        if self.at_mark("^"):
            place = self.place()
            self.take()
            return ("return", self.expression(), place)
        return ("do", self.expression())

    def expression(self):
        """Reads an expression, with the names that it sets before it."""
        targets = []
        # A loop, not recursion: any number of names may be set in a row.
        while self.at_target():
            targets.append(self.take_name())
            self.take()
        tree = self.keyworded()
        for name, place in reversed(targets):
            tree = ("set", name, tree, place)
        return tree

    def keyworded(self):
        """Reads a keyword send, or what may be its receiver."""
        receiver = self.binary()
        if self.kind() != "keyword":
            return self.alone(receiver)
        place = self.place()
        keywords = []
        arguments = []
        while self.kind() == "keyword":
            if len(arguments) == MOST_ARGUMENTS:
                raise Oversized("arguments")
            keywords.append(self.take())
            arguments.append(self.alone(self.binary()))
        return sent(receiver, "".join(keywords), arguments, place)

    def binary(self):
        """Reads binary sends, or what may be the receiver of one."""
        tree = self.unary()
        while self.kind() == "sign":
            place = self.place()
            selector = self.take()
            tree = sent(tree, selector, [self.alone(self.unary())], place)
        return tree

    def unary(self):
        """Reads unary sends, or what may be the receiver of one."""
        tree = self.primary()
        while self.at_free_name():
            place = self.place()
            tree = sent(tree, self.take(), [], place)
        return tree

    def alone(self, tree):
        """Returns a tree that has been read and gets no selector."""
        if tree == SUPER:
            raise Malformed(self.place())
        return tree

    def primary(self):
        """Reads a primary."""
        kind = self.kind()
        if kind == "name":
            return self.name_primary()
        if kind == "number":
            return self.number_primary(self.place(), 1)
        if kind == "symbol":
            return ("symbol", self.take())
        if kind == "sign" and self.value() == "-":
            behind = self.place() + 1
            self.take()
            return self.number_primary(behind, -1)
        if self.at_mark("["):
            return self.block()
        if self.at_mark("("):
            return self.parenthesized()
        raise Malformed(self.place())

    def name_primary(self):
        """Reads a name, which may be reserved."""
        if self.at_free_name():
            name, place = self.take_name()
            return ("var", name, place)
        return (self.take(),)

    def number_primary(self, place, factor):
        """Reads a number that must stand at a place."""
        if self.kind() != "number" or self.place() != place:
            raise Malformed(self.place())
        number = factor * self.value()
        if not LEAST <= number <= GREATEST:
            raise Malformed(place)
        self.take()
        return ("int", number)

    def parenthesized(self):
        """Reads an expression in parentheses."""
        self.take_opening()
        tree = self.expression()
        self.take_closing(")")
        return tree

    def block(self):
        """Reads a block."""
        place = self.place()
        self.take_opening()
        params = self.block_params()
        temps = self.temps()
        statements = self.statements()
        self.take_closing("]")
        return ("block", params, temps, statements, place)

    def block_params(self):
        """Reads the parameters of a block and the bar behind them."""
        params = []
        while self.at_mark(":"):
            if len(params) == MOST_ARGUMENTS:
                raise Oversized("arguments")
            self.take()
            params.append(self.take_name())
        if params:
            self.take_mark("|")
        return tuple(params)
