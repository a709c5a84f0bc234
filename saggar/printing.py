"""Printing: the canonical source of a tree of a method."""

from saggar.lexing import arity, is_binary, is_keywords, is_name

# How loosely an expression holds together; a looser one than its place
# allows is put in parentheses.
PRIMARY = 0
UNARY = 1
BINARY = 2
KEYWORD = 3
SETTING = 4


def print_method(tree):
    """Returns the canonical source of the tree of a method."""
    source = pattern_text(tree[1], tree[2]) + "\n"
    if tree[3]:
        source = source + "| " + names_text(tree[3]) + "|\n"
    return source + ".\n".join(statement_texts(tree[4]))


def pattern_text(selector, params):
    """Returns the text of the pattern of a method."""
    if arity(selector) == 0:
        return selector
    words = []
    for keyword, pair in zip(keywords_of(selector), params):
        words.append(keyword)
        words.append(pair[0])
    return " ".join(words)


def keywords_of(selector):
    """Returns the list of the keywords, or of the one sign, of a selector."""
    if is_binary(selector):
        return [selector]
    return [name + ":" for name in selector.split(":")[:-1]]


def names_text(pairs):
    """Returns the text of names with a space behind each."""
    return "".join([name + " " for name, _ in pairs])


def statement_texts(statements):
    """Returns the list of the texts of statements."""
    texts = []
    for statement in statements:
        text = expression_text(statement[1])
        if statement[0] == "return":
            text = "^ " + text
        texts.append(text)
    return texts


def expression_text(tree):
    """Returns the text of an expression without parentheses around it."""
    kind = tree[0]
    if kind == "int":
        return str(tree[1])
    if kind == "symbol":
        return symbol_text(tree[1])
    if kind == "var":
        return tree[1]
    if kind == "set":
        return tree[1] + " := " + expression_text(tree[2])
    if kind == "send":
        most = min(selector_rank(tree[2]), BINARY)
        return send_text(wrapped_text(tree[1], most), tree[2], tree[3])
    if kind == "super":
        return send_text("super", tree[1], tree[2])
    if kind == "block":
        return block_text(tree)
    return kind


def symbol_text(text):
    """Returns the text of a symbol as it stands in a source."""
    if is_name(text) or is_keywords(text):
        return "#" + text
    return "'" + text.replace("'", "''") + "'"


def send_text(receiver, selector, arguments):
    """Returns the text of a send, behind the text of its receiver."""
    rank = selector_rank(selector)
    if rank == UNARY:
        return receiver + " " + selector
    words = [receiver]
    for keyword, argument in zip(keywords_of(selector), arguments):
        words.append(keyword)
        words.append(wrapped_text(argument, rank - 1))
    return " ".join(words)


def block_text(tree):
    """Returns the text of a block."""
    head = "".join([":" + name + " " for name, _ in tree[1]])
    if tree[1]:
        head = head + "| "
    if tree[2]:
        head = head + "| " + names_text(tree[2]) + "| "
    return "[" + head + ". ".join(statement_texts(tree[3])) + "]"


def wrapped_text(tree, most):
    """Returns the text of an expression in a place of a certain rank."""
    text = expression_text(tree)
    if rank_of(tree) > most:
        return "(" + text + ")"
    return text


def rank_of(tree):
    """Returns the rank of an expression."""
    if tree[0] == "send":
        return selector_rank(tree[2])
    if tree[0] == "super":
        return selector_rank(tree[1])
    if tree[0] == "set":
        return SETTING
    return PRIMARY


def selector_rank(selector):
    """Returns the rank of a send with a selector."""
    if is_binary(selector):
        return BINARY
    if arity(selector) == 0:
        return UNARY
    return KEYWORD
