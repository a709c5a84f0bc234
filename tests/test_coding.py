"""Code of methods: points 10.1 to 10.7."""

import copy
import random
import unittest

from saggar.coding import Draft, compile_method
from saggar.errors import Fixed, Oversized, Twice, Unknown
from saggar.parsing import parse_method
from tests.growing import NAMES, grow_method


def compiled(source, fields=(), names=()):
    """Returns the draft of a source."""
    return compile_method(parse_method(source), list(fields), list(names))


def listed(draft):
    """Returns the code of a draft as one string."""
    return ", ".join(op if op in BARE else op + " " + str(arg) for op, arg in draft.code)


BARE = ("self", "nil", "true", "false", "pop", "dup", "return", "leave")
FIELDS = ["x", "y"]
GLOBALS = ["Home", "Total"]


class Coding(unittest.TestCase):
    def check(self, source, code, literals=None, stack=None):
        draft = compiled(source, FIELDS, GLOBALS)
        self.assertEqual(listed(draft), code, source)
        if literals is not None:
            self.assertEqual(draft.literals, literals, source)
        if stack is not None:
            self.assertEqual(draft.stack, stack, source)


class Drafts(unittest.TestCase):
    def test_attributes(self):
        code, literals = [("self", 0)], [("int", 1)]
        draft = Draft("f:", 1, 2, 3, code, literals)
        found = [draft.selector, draft.argc, draft.locals, draft.stack, draft.code, draft.literals]
        self.assertEqual(found, ["f:", 1, 2, 3, code, literals])
        code.append(("pop", 0))
        literals.clear()
        self.assertEqual([draft.code, draft.literals], [[("self", 0)], [("int", 1)]])

    def test_comparing(self):
        row = ["f", 0, 0, 1, [("self", 0)], [("int", 1)]]
        self.assertTrue(Draft(*row) == Draft(*row))
        self.assertFalse(Draft(*row) != Draft(*row))
        for k, other in enumerate(["g", 1, 1, 2, [("self", 0), ("pop", 0)], []]):
            changed = row[:k] + [other] + row[k + 1:]
            self.assertFalse(Draft(*row) == Draft(*changed))
            self.assertTrue(Draft(*row) != Draft(*changed))
        self.assertFalse(Draft(*row) == "f")
        self.assertFalse(Draft(*row) == None)  # noqa: E711

    def test_of_a_method(self):
        draft = compiled("at: k put: v | t | ^k")
        self.assertEqual([draft.selector, draft.argc, draft.locals, draft.stack], ["at:put:", 2, 3, 1])
        self.assertEqual([type(draft.code), type(draft.literals)], [list, list])
        self.assertIs(type(draft.code[0]), tuple)
        self.assertEqual(draft, compiled("at: k put: v | t | ^k"))
        self.assertNotEqual(draft, compiled("at: k put: v | t | ^v"))

    def test_arguments_are_not_modified(self):
        tree = parse_method("f: a ^[:b | x := a + b. Home]")
        fields, names = ["x"], ["Home"]
        before = copy.deepcopy(tree)
        compile_method(tree, fields, names)
        self.assertEqual([tree, fields, names], [before, ["x"], ["Home"]])


class Pieces(Coding):
    def test_methods(self):
        self.check("f", "self, return", [], 1)
        self.check("f 3", "literal 0, pop, self, return", [("int", 3)], 1)
        self.check("f ^3", "literal 0, return", [("int", 3)], 1)
        self.check("f 3. ^4", "literal 0, pop, literal 1, return", [("int", 3), ("int", 4)], 1)

    def test_statements_behind_a_return(self):
        self.check("f ^3. 4. nowhere", "literal 0, return", [("int", 3)])
        self.check("f ^3. [:z :z | ^3]. ^4", "literal 0, return")
        self.check("f ^[^1. nowhere]", "block 0, jump 4, literal 1, return, return")
        self.check("f ^nil ifTrue: [^1. nowhere]", "nil, jump_false 4, literal 0, return, nil, return")

    def test_words(self):
        self.check("f ^nil", "nil, return", [], 1)
        self.check("f ^true", "true, return")
        self.check("f ^false", "false, return")
        self.check("f ^self", "self, return")
        self.check("f ^-7", "literal 0, return", [("int", -7)])
        self.check("f ^'a b'", "literal 0, return", [("symbol", "a b")])

    def test_names(self):
        self.check("f: a | t | ^a", "local 0, return", [])
        self.check("f: a | t | ^t", "local 1, return")
        self.check("f ^x", "field 0, return", [])
        self.check("f ^y", "field 1, return")
        self.check("f ^Total", "global 0, return", [("global", "Total")])
        self.check("f | t | ^t := 3", "literal 0, set_local 0, return", None, 1)
        self.check("f ^y := 3", "literal 0, set_field 1, return")
        self.check("f ^Total := Home", "global 0, set_global 1, return", [("global", "Home"), ("global", "Total")])
        self.check("f | t u | t := u := nil", "nil, set_local 1, set_local 0, pop, self, return", [], 1)

    def test_the_order_in_which_names_are_found(self):
        self.assertEqual(listed(compiled("f: a ^a", ["a"], ["a"])), "local 0, return")
        self.assertEqual(listed(compiled("f | a | ^a", ["a"], ["a"])), "local 0, return")
        self.assertEqual(listed(compiled("f ^a", ["b", "a"], ["a"])), "field 1, return")
        self.assertEqual(listed(compiled("f ^a", ["b"], ["a"])), "global 0, return")
        inner = "block 0, jump 4, local 0, leave, return"
        self.assertEqual(listed(compiled("f: a ^[:a | a]", ["a"], ["a"])), inner)
        inner = "block 0, jump 4, outer 256, leave, return"
        self.assertEqual(listed(compiled("f: a ^[:b | a]", ["a"], ["a"])), inner)

    def test_outer_names(self):
        source = "f: a | t | ^[:b | | u | t := [:c | u := a. b. t. c]]"
        code = "block 0, jump 15, block 1, jump 13, outer 512, set_outer 257, pop, outer 256, pop, outer 513, pop, local 0, leave"
        self.check(source, code + ", set_outer 257, leave, return", [("block", 1, 2, 2, 1), ("block", 1, 1, 4, 1)])

    def test_sends(self):
        self.check("f ^x foo", "field 0, send 0, return", [("selector", "foo")], 1)
        self.check("f ^x + 3", "field 0, literal 0, send 17, return", [("int", 3), ("selector", "+")], 2)
        code = "field 0, field 1, send 0, literal 1, send 34, return"
        self.check("f ^x at: y foo put: 3", code, [("selector", "foo"), ("int", 3), ("selector", "at:put:")], 3)
        self.check("f x foo", "field 0, send 0, pop, self, return")
        self.check("f ^self a: 1 b: 2 c: 3 d: 4", "self, literal 0, literal 1, literal 2, literal 3, send 68, return", None, 5)

    def test_sends_to_super(self):
        self.check("f ^super foo", "self, super_send 0, return", [("selector", "foo")], 1)
        self.check("f ^super + x", "self, field 0, super_send 1, return")
        self.check("f ^super a: x b: y", "self, field 0, field 1, super_send 2, return", [("selector", "a:b:")], 3)
        code = "self, block 0, jump 5, nil, leave, super_send 17, return"
        self.check("f ^super ifTrue: []", code, [("block", 0, 0, 3, 1), ("selector", "ifTrue:")])

    def test_blocks(self):
        self.check("f ^[]", "block 0, jump 4, nil, leave, return", [("block", 0, 0, 2, 1)], 1)
        self.check("f ^[3]", "block 0, jump 4, literal 1, leave, return", [("block", 0, 0, 2, 1), ("int", 3)])
        self.check("f ^[x. y]", "block 0, jump 6, field 0, pop, field 1, leave, return")
        self.check("f ^[^x]", "block 0, jump 4, field 0, return, return", [("block", 0, 0, 2, 1)])
        self.check("f ^[x. ^y]", "block 0, jump 6, field 0, pop, field 1, return, return")
        self.check("f [x]", "block 0, jump 4, field 0, leave, pop, self, return")
        self.check("f ^[:a :b | | c | a]", "block 0, jump 4, local 0, leave, return", [("block", 2, 3, 2, 1)])

    def test_blocks_in_blocks(self):
        code = "block 0, jump 7, block 1, jump 6, nil, leave, leave, return"
        self.check("f ^[[]]", code, [("block", 0, 0, 2, 1), ("block", 0, 0, 4, 1)])


class Inline(Coding):
    def test_if_true(self):
        self.check("f ^x ifTrue: [y]", "field 0, jump_false 4, field 1, jump 5, nil, return", [], 1)
        self.check("f ^x ifTrue: []", "field 0, jump_false 4, nil, jump 5, nil, return")
        self.check("f ^x ifTrue: [^y]", "field 0, jump_false 4, field 1, return, nil, return")
        code = "field 0, jump_false 6, field 0, pop, field 1, jump 7, nil, pop, self, return"
        self.check("f x ifTrue: [x. y]", code)

    def test_if_false(self):
        self.check("f ^x ifFalse: [y]", "field 0, jump_false 4, nil, jump 5, field 1, return", [], 1)
        self.check("f ^x ifFalse: []", "field 0, jump_false 4, nil, jump 5, nil, return")
        self.check("f ^x ifFalse: [^y]", "field 0, jump_false 4, nil, jump 6, field 1, return, return")

    def test_if_true_if_false(self):
        self.check("f ^x ifTrue: [y] ifFalse: [x]", "field 0, jump_false 4, field 1, jump 5, field 0, return")
        self.check("f ^x ifTrue: [^y] ifFalse: [x]", "field 0, jump_false 4, field 1, return, field 0, return")
        self.check("f ^x ifTrue: [y] ifFalse: [^x]", "field 0, jump_false 4, field 1, jump 6, field 0, return, return")
        code = "field 0, jump_false 4, field 1, return, field 0, return, pop, self, return"
        self.check("f x ifTrue: [^y] ifFalse: [^x]", code, [], 1)

    def test_while_true(self):
        code = "field 0, jump_false 5, field 1, pop, jump 0, nil, return"
        self.check("f ^[x] whileTrue: [y]", code, [], 1)
        self.check("f [x] whileTrue: []", "field 0, jump_false 5, nil, pop, jump 0, nil, pop, self, return")
        self.check("f [] whileTrue: []", "nil, jump_false 5, nil, pop, jump 0, nil, pop, self, return")
        self.check("f ^[x. y] whileTrue: [y]", "field 0, pop, field 1, jump_false 7, field 1, pop, jump 0, nil, return")
        self.check("f ^[^x] whileTrue: [y]", "field 0, return, field 1, pop, jump 0, nil, return", [], 1)
        self.check("f ^[x] whileTrue: [^y]", "field 0, jump_false 4, field 1, return, nil, return")
        self.check("f ^[^x] whileTrue: [^y]", "field 0, return, field 1, return, nil, return")

    def test_a_loop_behind_other_code(self):
        code = "field 0, pop, field 0, jump_false 7, nil, pop, jump 2, nil, return"
        self.check("f x. ^[x] whileTrue: []", code)

    def test_names_belong_to_the_context_around(self):
        source = "f | t | ^[:a | t ifTrue: [t := a]]"
        self.check(source, "block 0, jump 9, outer 256, jump_false 7, local 0, set_outer 256, jump 8, nil, leave, return")
        source = "f | t | ^t ifTrue: [[t]]"
        self.check(source, "local 0, jump_false 7, block 0, jump 6, outer 256, leave, jump 8, nil, return")

    def test_blocks_that_are_not_inline(self):
        block = "block 0, jump 5, nil, leave"
        self.check("f ^x ifTrue: [:a | ]", "field 0, " + block + ", send 17, return")
        self.check("f ^x ifTrue: [| t | ]", "field 0, " + block + ", send 17, return")
        self.check("f ^x ifFalse: [:a | ]", "field 0, " + block + ", send 17, return")
        self.check("f ^x ifTrue: y", "field 0, field 1, send 1, return", [("selector", "ifTrue:")])
        self.check("f ^x ifTrue: [] ifFalse: y", "field 0, " + block + ", field 1, send 18, return")
        self.check("f ^x ifTrue: y ifFalse: []", "field 0, field 1, block 0, jump 6, nil, leave, send 18, return")
        self.check("f ^x ifTrue: (y foo: [])", "field 0, field 1, block 0, jump 6, nil, leave, send 17, send 33, return")
        self.check("f ^x whileTrue: []", "field 0, " + block + ", send 17, return")
        self.check("f ^[] whileTrue: x", "block 0, jump 4, nil, leave, field 0, send 17, return")
        self.check("f ^[:a | ] whileTrue: []", "block 0, jump 4, nil, leave, block 1, jump 8, nil, leave, send 33, return")
        self.check("f ^[] whileTrue: [:a | ]", "block 0, jump 4, nil, leave, block 1, jump 8, nil, leave, send 33, return")
        self.check("f ^[] whileTrue", "block 0, jump 4, nil, leave, send 16, return")
        self.check("f ^[] whileFalse: []", "block 0, jump 4, nil, leave, block 1, jump 8, nil, leave, send 33, return")
        code = "field 0, block 0, jump 5, nil, leave, block 1, jump 9, nil, leave, send 34, return"
        self.check("f ^x ifFalse: [] ifTrue: []", code)

    def test_parentheses_and_empty_bars_do_not_matter(self):
        self.check("f ^x ifTrue: (([|| y]))", "field 0, jump_false 4, field 1, jump 5, nil, return")

    def test_a_block_as_the_condition(self):
        self.check("f ^[x] ifTrue: [y]", "block 0, jump 4, field 0, leave, jump_false 7, field 1, jump 8, nil, return")


class Literals(Coding):
    def test_equal_ones_are_one(self):
        self.check("f 3. 3. ^3", "literal 0, pop, literal 0, pop, literal 0, return", [("int", 3)])
        literals = [("symbol", "a"), ("selector", "a"), ("global", "Home"), ("symbol", "Home")]
        self.check("f #a a. #a a. Home. #Home. Home", "literal 0, send 16, pop, literal 0, send 16, pop, "
                   "global 2, pop, literal 3, pop, global 2, pop, self, return", literals)

    def test_two_blocks_are_two(self):
        literals = [("block", 0, 0, 2, 1), ("int", 3), ("block", 0, 0, 7, 1)]
        self.check("f [3]. [3]", "block 0, jump 4, literal 1, leave, pop, block 2, jump 9, literal 1, leave, pop, self, return", literals)

    def test_the_order_of_the_first_use(self):
        literals = [("int", 1), ("block", 0, 0, 3, 2), ("int", 2), ("selector", "+"), ("int", 4), ("selector", "a:b:")]
        self.check("f ^1 a: [2 + 2] b: 4", "literal 0, block 1, jump 7, literal 2, literal 2, send 49, leave, literal 4, send 82, return", literals)
        self.check("f ^Home := 7", "literal 0, set_global 1, return", [("int", 7), ("global", "Home")])

    def test_many_literals(self):
        draft = compiled("f " + ". ".join("#s" + str(k) for k in range(300)) + ". ^self foo")
        self.assertEqual(draft.code[-3:], [("self", 0), ("send", 300 * 16), ("return", 0)])


class Faults(unittest.TestCase):
    def raises(self, kind, source, *values):
        with self.assertRaises(kind) as caught:
            compiled(source, FIELDS, GLOBALS)
        self.assertEqual(tuple(vars(caught.exception).values()), values, source)

    def test_unknown_names(self):
        self.raises(Unknown, "f z", "z", 2)
        self.raises(Unknown, "f ^x + z", "z", 7)
        self.raises(Unknown, "f z := 3", "z", 2)
        self.raises(Unknown, "f [:z | z]. z", "z", 12)
        self.raises(Unknown, "f ^[x ifTrue: [z]]", "z", 15)
        self.raises(Unknown, "f home", "home", 2)

    def test_fixed_names(self):
        self.raises(Fixed, "f: a a := 3", "a", 5)
        self.raises(Fixed, "f ^[:a | a := 3]", "a", 9)
        self.raises(Fixed, "f: a ^[:b | a := 3]", "a", 12)
        self.raises(Fixed, "f: x x := 3", "x", 5)
        self.raises(Fixed, "+ a x ifTrue: [a := 3]", "a", 15)
        # A temporary name of a block stands before a parameter around it.
        self.assertEqual(listed(compiled("f: a ^[| a | a := nil]")), "block 0, jump 5, nil, set_local 0, leave, return")
        self.raises(Fixed, "f | a | ^[:a | a := nil]", "a", 15)

    def test_names_that_stand_twice(self):
        self.raises(Twice, "a: k b: k", "k", 8)
        self.raises(Twice, "f: k | k |", "k", 7)
        self.raises(Twice, "f | a b a b |", "a", 8)
        self.raises(Twice, "f ^[:a :b :a | ]", "a", 11)
        self.raises(Twice, "f ^[:a | | b a | ]", "a", 13)
        self.raises(Twice, "f ^[| a a | ]", "a", 8)

    def test_the_same_name_in_other_places(self):
        compiled("f: x | y | ^[:x | | y | [:x | x]. y]", FIELDS, ["x"])

    def names(self, count):
        return " ".join("t" + str(k) for k in range(count))

    def test_many_locals(self):
        self.assertEqual(compiled("f | " + self.names(255) + " |").locals, 255)
        self.assertEqual(compiled("f: a | " + self.names(254) + " | ^t253").code[0], ("local", 254))
        self.raises(Oversized, "f | " + self.names(256) + " |", "locals")
        self.raises(Oversized, "f: a | " + self.names(255) + " |", "locals")
        self.assertEqual(compiled("f ^[:a | | " + self.names(254) + " | ]").literals[0], ("block", 1, 255, 2, 1))
        self.raises(Oversized, "f ^[:a | | " + self.names(255) + " | ]", "locals")
        draft = compiled("f | " + self.names(255) + " | ^[t254]")
        self.assertEqual(draft.code[2], ("outer", 256 + 254))

    def test_twice_comes_before_oversized(self):
        source = "f | " + self.names(256) + " t3 |"
        self.raises(Twice, source, "t3", len(source) - 4)

    def test_the_order_of_errors(self):
        self.raises(Unknown, "f z + w", "z", 2)
        self.raises(Unknown, "f x a: z b: w", "z", 7)
        self.raises(Unknown, "f: a a := z", "z", 10)
        self.raises(Unknown, "f w := z", "z", 7)
        self.raises(Fixed, "f: a a := x. z", "a", 5)
        self.raises(Twice, "f: a | a | z", "a", 7)
        self.raises(Unknown, "f z. [:a :a | ]", "z", 2)
        self.raises(Twice, "f [:a :a | z]", "a", 7)
        self.raises(Twice, "f | t | t := [:a :a | ] foo: z", "a", 18)
        self.raises(Oversized, "f [| " + self.names(256) + " | z]", "locals")
        self.raises(Unknown, "f z. [| " + self.names(256) + " | ]", "z", 2)
        self.raises(Unknown, "f [z] whileTrue: [w]", "z", 3)
        self.raises(Unknown, "f x ifTrue: [z] ifFalse: [w]", "z", 13)
        self.raises(Unknown, "f ^[^1] foo: z", "z", 13)


class Stacks(Coding):
    def test_heights(self):
        self.check("f ^1 + (2 + (3 + 4))", "literal 0, literal 1, literal 2, literal 3, send 65, send 65, send 65, return", None, 4)
        self.check("f ^1 + 2 + 3", "literal 0, literal 1, send 33, literal 3, send 33, return", None, 2)

    def test_blocks_have_their_own(self):
        draft = compiled("f ^x + [1 a: 2 b: [3]]", FIELDS)
        self.assertEqual(draft.stack, 2)
        self.assertEqual([literal for literal in draft.literals if literal[0] == "block"], [("block", 0, 0, 3, 3), ("block", 0, 0, 7, 1)])

    def test_places_that_cannot_be_reached(self):
        draft = compiled("f ^[^1] whileTrue: [self a: 1 b: 2 c: [3]]")
        self.assertEqual([draft.stack, draft.literals[2]], [1, ("block", 0, 0, 7, 0)])
        draft = compiled("f (nil ifTrue: [^1] ifFalse: [^2]). self a: [[3]]")
        self.assertEqual([literal[4] for literal in draft.literals if literal[0] == "block"], [0, 0])
        draft = compiled("f ^[(nil ifTrue: [^1] ifFalse: [^2]). self a: 1 b: []]")
        self.assertEqual([literal[4] for literal in draft.literals if literal[0] == "block"], [1, 0])

    def test_random_methods(self):
        for seed in range(400):
            tree = grow_method(random.Random(seed))
            draft = compile_method(tree, NAMES[:2], NAMES[2:])
            self.assertEqual(stacks_told(draft), stacks_needed(draft), seed)


def stacks_told(draft):
    """Returns the stacks in a draft, by the starts of the routines."""
    found = {0: draft.stack}
    for literal in draft.literals:
        if literal[0] == "block":
            found[literal[3]] = literal[4]
    return found


def stacks_needed(draft):
    """Follows the rules of chapter 11 and returns the greatest heights."""
    needed = {start: 0 for start in stacks_told(draft)}
    seen, waiting = {}, [(0, 0, 0)]
    while waiting:
        routine, place, height = waiting.pop()
        if place in seen:
            assert seen[place] == (routine, height)
            continue
        seen[place] = (routine, height)
        needed[routine] = max(needed[routine], height)
        op, arg = draft.code[place]
        taken, given = effect(op, arg)
        assert height >= taken and not (op == "leave" and routine == 0)
        if op == "block":
            start = draft.literals[arg][3]
            waiting.append((start, start, 0))
        following = {"jump": [arg], "jump_false": [place + 1, arg], "return": [], "leave": []}.get(op, [place + 1])
        waiting += [(routine, other, height - taken + given) for other in following]
    return needed


def effect(op, arg):
    """Returns how many words an instruction takes off or needs, and leaves."""
    if op in ("send", "super_send"):
        return arg % 16 + 1, 1
    if op in ("pop", "jump_false"):
        return 1, 0
    if op.startswith("set_") or op in ("return", "leave"):
        return 1, 1
    return (0, 0) if op == "jump" else (0, 1)


class OtherFields(unittest.TestCase):
    def test_only_the_numbers_of_fields_change(self):
        for seed in range(200):
            tree = grow_method(random.Random(seed))
            one = compile_method(tree, NAMES[:3], NAMES[3:])
            other = compile_method(tree, ["new"] + list(reversed(NAMES[:3])) + ["more"], NAMES[3:])
            places = {k: 3 - k for k in range(3)}
            moved = [(op, places[arg]) if op in ("field", "set_field") else (op, arg) for op, arg in one.code]
            self.assertEqual([other.code, other.literals, other.stack], [moved, one.literals, one.stack])


if __name__ == "__main__":
    unittest.main()
