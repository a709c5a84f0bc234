"""Random lists of commands for worlds."""

from tests.programs import CLASSES, GLOBALS, grow_program

# Plans that keep the fields which the methods of programs name, and others that are refused.
SHAPES = [
    ("Point", "Object", ("y", "x")), ("Point", "Object", ("x", "more", "y")), ("Point", "Object", ("x", "y")),
    ("Spot", "Point", ("colour", "extra")), ("Spot", "Point", ("colour",)), ("Other", "Object", ("c", "b", "a", "x")),
    ("Other", "Object", ("x", "a", "b", "c", "d")), ("Other", "Point", ("a", "b", "c")), ("Spot", "Object", ("colour", "x", "y")),
    ("Point", "Object", ("x",)), ("Point", "Spot", ("x", "y")), ("Spot", "Point", ("x",)), ("Nobody", "Object", ()),
    ("Array", "Object", ("x",)), ("Point", "Array", ("x", "y")), ("Point", "Object", ("x", "Y"))]
WRONG = [
    ("class", "point", "Object", ()), ("class", "Point", "Object", ()), ("class", "Fresh", "Array", ()), ("global", "Home"),
    ("class", "Fresh", "Point", ("x",)), ("method", "Nobody", "f ^1"), ("method", "Point", "f ^"), ("method", "Point", "f ^nothing"),
    ("method", "Home", "f ^1"), ("start", "f ^nothing"), ("start", "f: ^1"), ("method", "Spot", "f: a a := 1")]


def grow_commands(chance):
    """Returns a random list of commands."""
    methods, sources = grow_program(chance)
    commands = [("class", name, superclass, tuple(fields)) for name, superclass, fields in CLASSES]
    commands += [("global", name) for name in GLOBALS]
    commands += [("method", owner, source) for owner, source in methods]
    later = [("start", source) for source in sources]
    for _ in range(chance.randrange(10, 25)):
        kind = chance.randrange(10)
        if kind < 5:
            choices = tuple(chance.randrange(7) for _ in range(chance.randrange(4)))
            later.append(("run", choices, chance.choice([0, 1, 3, 10, 40, 100])))
        elif kind < 8:
            later.append(("reshape",) + chance.choice(SHAPES))
        elif kind == 8:
            later.append(chance.choice(WRONG))
        else:
            later.append(chance.choice([("start", chance.choice(sources)), ("method",) + chance.choice(methods)]))
    return commands + later


def with_others(commands, chance, rate=0.3):
    """Returns the commands with collect, pressure and reload between them."""
    found = []
    for command in commands + [None]:
        while chance.random() < rate:
            found.append(chance.choice([("collect",), ("pressure", True), ("pressure", False), ("reload",), ("reload",)]))
        if command is not None:
            found.append(command)
    return found
