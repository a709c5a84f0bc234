"""The rules of points 08.1 and 08.2 once more, read by Earley's method.

It finds the first token that does not fit without any of the program's
decisions: it keeps every way in which the tokens so far can be understood.
"""

RESERVED = ("nil", "true", "false", "self", "super")

RULES = {
    "method": ["pattern temps statements"],
    "pattern": ["NAME", "SIGN NAME", "keypattern"],
    "keypattern": ["KEYWORD NAME", "keypattern KEYWORD NAME"],
    "temps": ["", "| names |"],
    "names": ["", "names NAME"],
    "statements": ["", "list", "list ."],
    "list": ["statement", "list . statement"],
    "statement": ["^ expr", "expr"],
    "expr": ["NAME := expr", "keyworded"],
    "keyworded": ["binary", "binary arguments", "SUPER arguments"],
    "arguments": ["KEYWORD binary", "arguments KEYWORD binary"],
    "binary": ["unary", "binary SIGN unary", "SUPER SIGN unary"],
    "unary": ["primary", "unary NAME", "SUPER NAME"],
    "primary": ["NAME", "WORD", "NUMBER", "MINUS NEGATIVE", "SYMBOL", "block", "( expr )"],
    "block": ["[ temps statements ]", "[ params | temps statements ]"],
    "params": [": NAME", "params : NAME"],
}


def terminals(tokens, k):
    """Returns the terminals that a token may be read as."""
    place, kind, value = tokens[k]
    if kind == "mark":
        return [value]
    if kind == "name":
        if value == "super":
            return ["SUPER"]
        return ["WORD"] if value in RESERVED else ["NAME"]
    if kind == "sign":
        return ["SIGN", "MINUS"] if value == "-" else ["SIGN"]
    if kind == "number":
        found = ["NUMBER"] if value < 1 << 28 else []
        if k > 0 and tokens[k - 1] == (place - 1, "sign", "-") and value <= 1 << 28:
            found.append("NEGATIVE")
        return found
    return [kind.upper()]


def closed(items, sets):
    """Returns a set of items with all that they predict and complete."""
    found = set()
    waiting = list(items)
    while waiting:
        item = waiting.pop()
        if item in found:
            continue
        found.add(item)
        head, body, dot, origin = item
        if dot == len(body):
            earlier = found if origin == len(sets) else sets[origin]
            for other in list(earlier):
                if other[2] < len(other[1]) and other[1][other[2]] == head:
                    waiting.append((other[0], other[1], other[2] + 1, other[3]))
        elif body[dot] in RULES:
            for rule in RULES[body[dot]]:
                waiting.append((body[dot], tuple(rule.split()), 0, len(sets)))
            # What is predicted here may have been completed here already.
            for other in list(found):
                if other[0] == body[dot] and other[3] == len(sets) and other[2] == len(other[1]):
                    waiting.append((head, body, dot + 1, origin))
    return found


def first_misfit(tokens, length):
    """Returns the place of the first token that does not fit, or None."""
    sets = []
    items = closed([("start", ("method",), 0, 0)], sets)
    for k, token in enumerate(tokens):
        sets.append(items)
        moved = []
        for head, body, dot, origin in items:
            if dot < len(body) and body[dot] in terminals(tokens, k):
                moved.append((head, body, dot + 1, origin))
        if not moved:
            return token[0]
        items = closed(moved, sets)
    if ("start", ("method",), 1, 0) in items:
        return None
    return length
