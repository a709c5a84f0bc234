"""A second reading of the rules of checking, written for a single reader."""

PUSHING = {"local", "outer", "field", "literal", "global", "self", "nil", "true", "false", "dup", "block"}
SETTING = {"set_local", "set_outer", "set_field", "set_global"}
PLAIN = {"self", "nil", "true", "false", "pop", "dup", "return", "leave"}
KNOWN = PUSHING | SETTING | PLAIN | {"send", "super_send", "jump", "jump_false"}


def arguments_of(text):
    return 1 if text[:1] in set("+-*/<>=~&,@") and text else text.count(":")


def judged(draft, fields):
    """Returns the first fault of points 11.2 and 11.3."""
    if draft.selector == "" or draft.argc != arguments_of(draft.selector) or draft.locals < draft.argc:
        return ("head", 0)
    if draft.locals > 255 or draft.stack not in range(10001) or draft.code == []:
        return ("head", 0)
    for k, literal in enumerate(draft.literals):
        if not good_literal(literal, len(draft.code)):
            return ("literal", k)
    routines = [{"start": 0, "locals": [draft.locals], "stack": draft.stack, "method": True}]
    owners, levels, used = {}, {}, {}
    for routine in routines:
        line = [(routine["start"], 0)]
        for place, height in line:
            if place not in range(len(draft.code)):
                return ("end", place)
            if place in owners:
                if owners[place] is not routine:
                    return ("shared", place)
                if levels[place] != height:
                    return ("height", place)
                continue
            owners[place], levels[place] = routine, height
            op, arg = draft.code[place]
            if op not in KNOWN:
                return ("op", place)
            if not good_arg(draft, fields, routine, op, arg):
                return ("arg", place)
            taken, given = words_moved(op, arg)
            if height < taken:
                return ("under", place)
            if op == "leave" and routine["method"]:
                return ("leave", place)
            behind = height - taken + given
            if behind > routine["stack"]:
                return ("over", place)
            if op == "block":
                if used.setdefault(arg, routine) is not routine:
                    return ("shared", place)
                if not any(other.get("literal") == arg for other in routines):
                    _, _, count, start, stack = draft.literals[arg]
                    routines.append({"start": start, "locals": [count] + routine["locals"], "stack": stack,
                                     "method": False, "literal": arg})
            if op not in ("jump", "return", "leave"):
                line.append((place + 1, behind))
            if op in ("jump", "jump_false"):
                line.append((arg, behind))
    return None


def good_literal(literal, length):
    kind, rest = literal[0], literal[1:]
    if kind == "block":
        if len(rest) != 4:
            return False
        argc, count, start, stack = rest
        return argc in range(16) and argc <= count <= 255 and start in range(length) and stack in range(10001)
    if kind not in ("int", "symbol", "global", "selector") or len(rest) != 1:
        return False
    if kind == "int":
        return -(1 << 28) <= rest[0] < 1 << 28
    return kind != "selector" or rest[0] != ""


def good_arg(draft, fields, routine, op, arg):
    if op in PLAIN:
        return arg == 0
    if arg not in range(65536):
        return False
    end = op.split("_")[-1]
    if end == "local":
        return arg < routine["locals"][0]
    if end == "outer":
        distance, index = divmod(arg, 256)
        return distance in range(1, len(routine["locals"])) and index < routine["locals"][distance]
    if end == "field":
        return arg < fields
    if op in ("jump", "jump_false"):
        return True
    number = arg // 16 if end == "send" else arg
    if number >= len(draft.literals):
        return False
    literal = draft.literals[number]
    if end == "send":
        return literal[0] == "selector" and arguments_of(literal[1]) == arg % 16
    return literal[0] in {"literal": ("int", "symbol"), "global": ("global",), "block": ("block",)}[end]


def words_moved(op, arg):
    """Returns how many words an instruction needs, and how many are there in their place."""
    if op in ("send", "super_send"):
        return arg % 16 + 1, 1
    if op == "dup":
        return 1, 2
    if op in PUSHING:
        return 0, 1
    if op in ("pop", "jump_false"):
        return 1, 0
    return (0, 0) if op == "jump" else (1, 1)
