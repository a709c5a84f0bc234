"""Stacks: how high the stack is at the places of code that is in order."""

PUSHES = ("local", "outer", "field", "literal", "global", "self", "nil", "true", "false", "dup", "block")
SENDS = ("send", "super_send")
POPS = ("pop", "jump_false")
ENDS = ("return", "leave")


def change_of(op, arg):
    """Returns by how much an instruction makes the stack higher."""
    if op in PUSHES:
        return 1
    if op in SENDS:
        return -(arg % 16)
    if op in POPS:
        return -1
    return 0


def places_behind(op, arg, place):
    """Returns the list of the places that may come next."""
    if op in ENDS:
        return []
    if op == "jump":
        return [arg]
    if op == "jump_false":
        return [place + 1, arg]
    return [place + 1]


def heights_from(code, start):
    """Returns the dict of the heights at the places that a routine reaches."""
    heights = {}
    waiting = [(start, 0)]
    while waiting:
        place, height = waiting.pop()
        if place not in heights:
            heights[place] = height
            op, arg = code[place]
            behind = height + change_of(op, arg)
            for following in places_behind(op, arg, place):
                waiting.append((following, behind))
    return heights


def greatest_heights(code, literals):
    """Returns the dict of the greatest heights of the reached routines.

    Its keys are their starts; the method starts at the place 0.
    """
    greatest = {}
    starts = [0]
    while starts:
        start = starts.pop()
        heights = heights_from(code, start)
        greatest[start] = max(heights.values())
        for place in heights:
            op, arg = code[place]
            if op == "block":
                starts.append(literals[arg][3])
    return greatest
