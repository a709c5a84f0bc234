"""Ops: the names of the instructions, in the order of their numbers."""

OPS = (
    "local",
    "set_local",
    "outer",
    "set_outer",
    "field",
    "set_field",
    "literal",
    "global",
    "set_global",
    "self",
    "nil",
    "true",
    "false",
    "pop",
    "dup",
    "send",
    "super_send",
    "block",
    "jump",
    "jump_false",
    "return",
    "leave",
)
# The ops that have no arg.
BARE = ("self", "nil", "true", "false", "pop", "dup", "return", "leave")
MOST_ARG = 65535
