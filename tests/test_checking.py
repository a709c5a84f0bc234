"""Checking code: points 10.7 and 11.1 to 11.5."""

import copy
import random
import unittest

from saggar.checking import check_code, heights
from saggar.coding import Draft, compile_method
from saggar.ops import BARE, OPS
from saggar.parsing import parse_method
from tests.growing import NAMES, grow_method
from tests.referee import judged

LEAST = -(1 << 28)
GREATEST = (1 << 28) - 1
END = [("self", 0), ("return", 0)]
FAULTS = {"none", "op", "arg", "under", "over", "end", "shared", "height", "leave"}


def code_of(text):
    """Returns the code that is written as ops with args, separated by commas."""
    pairs = [part.split() for part in text.split(",")]
    return [(pair[0], int(pair[1]) if len(pair) > 1 else 0) for pair in pairs]


def draft_of(text, literals=(), selector="f", argc=None, count=2, stack=3):
    """Returns a draft with some code."""
    argc = selector.count(":") if argc is None else argc
    return Draft(selector, argc, count, stack, code_of(text), list(literals))


def block(start, argc=0, count=0, stack=2):
    return ("block", argc, count, start, stack)


class Checking(unittest.TestCase):
    def gives(self, fault, text, literals=(), fields=2, **head):
        draft = draft_of(text, literals, **head)
        self.assertEqual(check_code(draft, fields), fault, text)
        if fault is None or fault[0] not in ("head", "literal"):
            self.assertEqual(judged(draft, fields), fault, text)


class Heads(Checking):
    def head(self, fault, *parts):
        self.assertEqual(check_code(Draft(*parts, END, []), 0), fault, parts)

    def test_arguments(self):
        for argc in (-1, 1, 2):
            self.head(("head", 0), "f", argc, 5, 3)
        self.head(None, "f", 0, 5, 3)
        self.head(None, "at:put:", 2, 5, 3)
        self.head(("head", 0), "at:put:", 1, 5, 3)
        self.head(("head", 0), "at:put:", 3, 5, 3)
        self.head(None, "+", 1, 1, 3)
        self.head(("head", 0), "+", 0, 1, 3)
        self.head(None, "+:", 1, 1, 3)
        self.head(None, "two words", 0, 1, 3)
        self.head(None, "a:" * 20, 20, 20, 3)

    def test_an_empty_selector(self):
        self.head(("head", 0), "", 0, 0, 3)

    def test_locals(self):
        self.head(None, "f", 0, 0, 3)
        self.head(("head", 0), "f", 0, -1, 3)
        self.head(("head", 0), "f:", 1, 0, 3)
        self.head(None, "f:", 1, 1, 3)
        self.head(None, "f", 0, 255, 3)
        self.head(("head", 0), "f", 0, 256, 3)

    def test_stack(self):
        self.head(("head", 0), "f", 0, 0, -1)
        self.head(("over", 0), "f", 0, 0, 0)
        self.head(None, "f", 0, 0, 1)
        self.head(None, "f", 0, 0, 10000)
        self.head(("head", 0), "f", 0, 0, 10001)

    def test_no_code(self):
        self.assertEqual(check_code(Draft("f", 0, 0, 1, [], []), 0), ("head", 0))

    def test_heads_come_before_literals_and_code(self):
        self.assertEqual(check_code(Draft("f", 1, 0, 1, [("none", 0)], [("none",)]), 0), ("head", 0))
        self.assertEqual(check_code(Draft("f", 0, 0, 1, [("none", 0)], [("none",)]), 0), ("literal", 0))
        self.assertEqual(check_code(Draft("f", 0, 0, 1, [("none", 0)], []), 0), ("op", 0))


class Literals(Checking):
    def literal(self, literal, good):
        for before in ([], [("int", 3)], [("symbol", ""), block(0)]):
            draft = Draft("f", 0, 0, 1, END, before + [literal, ("symbol", "a")])
            self.assertEqual(check_code(draft, 0), None if good else ("literal", len(before)), literal)

    def test_forms(self):
        self.literal(("int", 3), True)
        self.literal(("symbol", ""), True)
        self.literal(("symbol", "a\n b"), True)
        self.literal(("global", "G"), True)
        self.literal(("global", ""), True)
        self.literal(("selector", "+"), True)
        for literal in [("none", 3), ("", 3), ("int",), ("int", 3, 3), ("symbol",), ("symbol", "a", "a"), ("global",),
                        ("global", "G", 1), ("selector",), ("selector", "a", 1), ("block",), ("block", 0, 0, 0),
                        ("block", 0, 0, 0, 1, 1), ("Int", 3), ("local", 3), ("int", "a"), ("symbol", 3),
                        ("global", 3), ("selector", 3), ("block", 0, "a", 0, 1)]:
            self.literal(literal, False)

    def test_numbers(self):
        for number in (LEAST, GREATEST, 0):
            self.literal(("int", number), True)
        for number in (LEAST - 1, GREATEST + 1, 1 << 100):
            self.literal(("int", number), False)

    def test_an_empty_selector(self):
        self.literal(("selector", ""), False)
        self.literal(("selector", " "), True)

    def test_blocks(self):
        for numbers in [(0, 0, 0, 0), (0, 0, 1, 10000), (15, 15, 0, 1), (15, 255, 1, 1), (0, 255, 0, 0)]:
            self.literal(("block",) + numbers, True)
        for numbers in [(-1, 0, 0, 0), (16, 16, 0, 0), (2, 1, 0, 0), (0, -1, 0, 0), (0, 256, 0, 0), (0, 0, -1, 0),
                        (0, 0, 2, 0), (0, 0, 0, -1), (0, 0, 0, 10001)]:
            self.literal(("block",) + numbers, False)

    def test_the_first_one_is_told(self):
        literals = [("int", 1), ("selector", ""), ("int", GREATEST + 1)]
        self.assertEqual(check_code(Draft("f", 0, 0, 1, [("none", 0)], literals), 0), ("literal", 1))

    def test_literals_that_are_not_used(self):
        self.gives(None, "self, return", [block(0), block(0), block(1)])


class Args(Checking):
    def test_unknown_ops(self):
        for op in ("none", "Self", "", "set_self", "inline"):
            self.assertEqual(check_code(Draft("f", 0, 0, 1, [("self", 0), (op, 0)], []), 0), ("op", 1))

    def test_ops_without_an_arg(self):
        code = {"leave": "block 0, jump 4, self, leave {}, return", "return": "self, return {}",
                "pop": "self, pop {}, self, return", "dup": "self, dup {}, return"}
        for op in BARE:
            text = code.get(op, op + " {}, return")
            literals = [block(2)] if op == "leave" else []
            self.gives(None, text.format(0), literals)
            place = [pair[0] for pair in code_of(text.format(0))].index(op)
            for arg in (1, -1, 65536):
                self.gives(("arg", place), text.format(arg), literals)

    def test_each_op_is_known(self):
        for op in OPS:
            fault = check_code(Draft("f", 0, 0, 1, [(op, 0)], []), 0)
            self.assertNotEqual(fault, ("op", 0))
            self.assertEqual(check_code(Draft("f", 0, 0, 1, [(op, -1)], []), 0), ("arg", 0))
            self.assertEqual(check_code(Draft("f", 0, 0, 1, [(op, 65536)], []), 0), ("arg", 0))

    def test_locals(self):
        for op in ("local {}, return", "self, set_local {}, return"):
            place = op.count(",") - 1
            for count, arg, good in [(1, 0, True), (1, 1, False), (0, 0, False), (255, 254, True), (255, 255, False)]:
                self.gives(None if good else ("arg", place), op.format(arg), count=count)

    def test_locals_of_a_block(self):
        text = "block 0, jump 4, local {}, leave, return"
        self.gives(None, text.format(4), [block(2, count=5)], count=0)
        self.gives(("arg", 2), text.format(5), [block(2, count=5)], count=9)

    def test_fields(self):
        for op in ("field {}, return", "self, set_field {}, return"):
            place = op.count(",") - 1
            for fields, arg, good in [(1, 0, True), (1, 1, False), (0, 0, False), (32, 31, True), (32, 32, False)]:
                self.gives(None if good else ("arg", place), op.format(arg), fields=fields)

    def test_outer(self):
        literals = [block(2, count=4), block(4, count=7)]
        reading = "block 0, jump 8, block 1, jump 7, nil, outer {}, leave, leave, return"
        setting = "block 0, jump 8, block 1, jump 7, nil, set_outer {}, leave, leave, return"
        for arg, good in [(256, True), (259, True), (260, False), (512, True), (513, True), (514, False),
                          (768, False), (0, False), (6, False), (65535, False)]:
            fault = None if good else ("arg", 5)
            self.gives(fault, reading.format(arg), literals, count=2)
            self.gives(fault, setting.format(arg), literals, count=2)

    def test_outer_in_a_method(self):
        self.gives(("arg", 0), "outer 256, return")
        self.gives(("arg", 0), "outer 0, return")

    def test_literals(self):
        literals = [("int", 1), ("symbol", "a"), ("global", "G"), ("selector", "a"), block(1)]
        for op, needed, good in [("literal", "", (0, 1)), ("global", "", (2,)), ("set_global", "self, ", (2,))]:
            for arg in range(6):
                place = needed.count(",")
                fault = None if arg in good else ("arg", place)
                self.gives(fault, needed + op + " " + str(arg) + ", return", literals)
        for arg in range(6):
            fault = None if arg == 4 else ("arg", 0)
            self.gives(fault, "block " + str(arg) + ", jump 4, self, leave, return", literals[:4] + [block(2)])

    def test_selectors(self):
        literals = [("selector", "a"), ("selector", "+"), ("selector", "a:b:"), ("symbol", "a"), ("int", 1), ("global", "a"),
                    block(1)]
        for op in ("send", "super_send"):
            for k in range(8):
                for count in range(16):
                    good = k < 3 and count == k
                    words = "self, " * (count + 1)
                    text = words + op + " " + str(16 * k + count) + ", return"
                    self.gives(None if good else ("arg", count + 1), text, literals, stack=16)

    def test_selectors_of_many_arguments(self):
        words = "self, " * 16
        self.gives(None, words + "send 15, return", [("selector", "a:" * 15)], stack=16)
        self.gives(("arg", 16), words + "send 15, return", [("selector", "a:" * 16)], stack=16)
        self.gives(("arg", 16), words + "send 0, return", [("selector", "a:" * 16)], stack=16)

    def test_jumps(self):
        self.gives(("end", 65535), "jump 65535")
        self.gives(("arg", 0), "jump 65536")
        self.gives(("arg", 0), "jump -1")
        self.gives(("arg", 1), "true, jump_false 65536, self, return")


class Stacks(Checking):
    def test_under(self):
        for text in ("pop", "dup", "set_local 0", "set_field 0", "set_global 0", "jump_false 0", "return"):
            self.gives(("under", 0), text + ", self, return", [("global", "G")])
            self.gives(("under", 2), "self, pop, " + text + ", self, return", [("global", "G")])
        self.gives(("under", 2), "block 0, jump 4, set_outer 256, leave, return", [block(2)])
        self.gives(("under", 2), "block 0, jump 3, leave, return", [block(2)])
        for op in ("send", "super_send"):
            self.gives(("under", 0), op + " 0, return", [("selector", "a")])
            self.gives(("under", 2), "self, self, " + op + " 2, return", [("selector", "a:b:")])
            self.gives(None, "self, self, self, " + op + " 2, return", [("selector", "a:b:")])

    def test_one_word_is_enough(self):
        self.gives(None, "self, pop, self, return", stack=1)
        self.gives(None, "self, set_local 0, return", stack=1)
        self.gives(None, "self, set_field 0, return", stack=1)
        self.gives(None, "self, set_global 0, return", [("global", "G")], stack=1)
        self.gives(None, "self, jump_false 2, self, return", stack=1)
        self.gives(None, "self, dup, return", stack=2)
        self.gives(None, "self, send 0, return", [("selector", "a")], stack=1)

    def test_over(self):
        for text in ("local 0", "field 0", "literal 0", "global 1", "self", "nil", "true", "false", "dup", "block 2"):
            literals = [("int", 1), ("global", "G"), block(3)]
            self.gives(("over", 1), "self, " + text + ", return, self, leave", literals, stack=1)
            self.gives(None, "self, " + text + ", return, self, leave", literals, stack=2)
        self.gives(("over", 0), "self, return", stack=0)

    def test_over_in_a_block(self):
        text = "block 0, jump 5, self, self, leave, return"
        self.gives(None, text, [block(2, stack=2)], stack=1)
        self.gives(("over", 3), text, [block(2, stack=1)], stack=9)
        self.gives(("over", 2), text, [block(2, stack=0)], stack=9)

    def test_leave(self):
        self.gives(("leave", 1), "self, leave")
        self.gives(("under", 0), "leave")
        self.gives(None, "block 0, jump 4, self, leave, return", [block(2)])
        self.gives(("leave", 5), "block 0, jump 4, self, leave, self, leave", [block(2)])

    def test_return_in_a_block(self):
        self.gives(None, "block 0, jump 4, self, return, return", [block(2)])


class Places(Checking):
    def test_end(self):
        self.gives(("end", 1), "self")
        self.gives(("end", 2), "self, pop")
        self.gives(("end", 1), "jump 1")
        self.gives(("end", 2), "jump 2, nil")
        self.gives(("end", 9), "jump 9")
        self.gives(("end", 4), "true, jump_false 4, self, return")
        self.gives(("end", 5), "block 0, jump 3, self, return, nil", [block(4)])

    def test_jumps_to_the_last_place(self):
        self.gives(None, "self, jump 3, nil, return")

    def test_places_that_are_not_reached(self):
        self.gives(None, "self, return, none, pop, leave, jump 99")
        self.gives(None, "self, jump 3, none 7, return")

    def test_height(self):
        self.gives(("height", 0), "self, jump 0")
        self.gives(("height", 3), "true, jump_false 3, self, self, return")
        self.gives(None, "true, jump_false 4, nil, pop, self, return", stack=1)
        self.gives(("height", 4), "true, jump_false 4, self, self, self, return")
        self.gives(None, "jump 0")
        self.gives(None, "true, jump_false 0, jump 0")

    def test_a_place_in_two_routines(self):
        self.gives(("shared", 2), "block 0, pop, self, return", [block(2)])
        self.gives(("shared", 0), "block 0, jump 3, nil, return", [block(0)])
        self.gives(("shared", 4), "block 0, jump 4, self, jump 4, return", [block(2)])

    def test_two_routines_comes_before_two_heights(self):
        self.gives(("shared", 4), "block 0, jump 4, self, self, return", [block(2)])

    def test_a_literal_in_two_routines(self):
        text = "block 0, jump 4, block 1, leave, block 1, jump 8, self, leave, pop, return"
        self.gives(("shared", 2), text, [block(2), block(6)])

    def test_a_literal_twice_in_a_routine(self):
        self.gives(None, "block 0, pop, block 0, return, self, leave", [block(4)])
        self.gives(None, "block 0, jump 6, block 1, pop, block 1, leave, return, self, leave", [block(2), block(7)])
        # A block that makes itself is a literal of two routines.
        self.gives(("shared", 2), "block 0, jump 4, block 0, leave, return", [block(2)])

    def test_equal_literals_are_two(self):
        self.gives(("shared", 4), "block 0, pop, block 1, return, self, leave", [block(4), block(4)])

    def test_the_next_place_comes_before_the_target(self):
        self.gives(("op", 2), "true, jump_false 3, none, void")
        self.gives(("op", 3), "true, jump_false 3, jump 4, void, none")
        self.gives(("under", 2), "true, jump_false 3, pop, leave")

    def test_places_are_taken_in_the_order_in_which_they_are_found(self):
        # Depth first, place 4 would be checked before place 3.
        self.gives(("op", 3), "true, jump_false 3, jump 4, none, void")
        self.gives(("op", 4), "true, jump_false 3, jump 4, jump 5, none, void")

    def test_routines_are_checked_one_behind_the_other(self):
        text = "block 0, pop, block 1, pop, nil, {}, {}, {}"
        literals = [block(6), block(7)]
        self.gives(("op", 5), text.format("none", "none", "none"), literals)
        self.gives(("op", 6), text.format("return", "none", "none"), literals)
        self.gives(("op", 7), text.format("return", "jump 6", "none"), literals)
        text = "block 1, pop, block 0, pop, nil, return, none, none"
        self.gives(("op", 7), text, literals)

    def test_inner_routines_come_behind_outer_ones(self):
        literals = [block(4), block(6), block(8)]
        text = "block 0, block 1, jump 3, return, block 2, leave, {}, leave, {}, leave"
        self.gives(("op", 6), text.format("none", "none"), literals)
        self.gives(("op", 8), text.format("nil", "none"), literals)
        self.gives(None, text.format("nil", "nil"), literals)

    def test_the_order_of_the_faults_of_a_place(self):
        self.gives(("op", 0), "none 99999")
        self.gives(("arg", 0), "pop 1")
        self.gives(("under", 0), "leave")
        self.gives(("leave", 1), "self, leave", stack=1)
        self.gives(("over", 2), "block 0, jump 2, block 0, return", [block(3)], stack=1)
        self.gives(("over", 1), "self, block 0, return, self, leave", [block(0)], stack=1)


class Heights(unittest.TestCase):
    def test_of_a_method(self):
        draft = draft_of("self, true, jump_false 5, nil, pop, return, none")
        self.assertEqual(heights(draft), {0: 0, 1: 1, 2: 2, 3: 1, 4: 2, 5: 1})

    def test_of_blocks(self):
        literals = [block(3, count=1), block(5)]
        draft = draft_of("self, block 0, jump 8, block 1, jump 7, field 7, leave, leave, return", literals)
        self.assertEqual(heights(draft), {0: 0, 1: 1, 2: 2, 3: 0, 4: 1, 5: 0, 6: 1, 7: 1, 8: 2})

    def test_of_a_loop(self):
        draft = draft_of("true, jump_false 5, nil, pop, jump 0, self, return")
        self.assertEqual(heights(draft), {0: 0, 1: 1, 2: 0, 3: 1, 4: 0, 5: 0, 6: 1})

    def test_any_number_of_fields(self):
        self.assertEqual(heights(draft_of("field 65535, return")), {0: 0, 1: 1})

    def test_the_order_of_the_keys_does_not_matter(self):
        draft = draft_of("jump 2, return, self, jump 1")
        self.assertEqual(heights(draft), {0: 0, 1: 1, 2: 0, 3: 1})


def grown(seed):
    """Returns the draft of a random method."""
    return compile_method(grow_method(random.Random(seed)), NAMES[:3], NAMES[3:])


def copied(draft):
    return Draft(draft.selector, draft.argc, draft.locals, draft.stack, draft.code, draft.literals)


class Compiled(unittest.TestCase):
    def test_no_fault(self):
        for seed in range(400):
            draft = grown(seed)
            self.assertIsNone(check_code(draft, 3), seed)
            self.assertIsNone(check_code(draft, 4), seed)

    def test_the_stacks_are_the_least_ones(self):
        checked = 0
        for seed in range(400):
            draft = grown(seed)
            less = copied(draft)
            less.stack -= 1
            self.assertEqual(check_code(less, 3)[0], "over", seed)
            reached = heights(draft)
            made = [draft.code[place][1] for place in reached if draft.code[place][0] == "block"]
            for k, literal in enumerate(draft.literals):
                if literal[0] == "block" and k in made:
                    less = copied(draft)
                    less.literals[k] = literal[:4] + (literal[4] - 1,)
                    self.assertEqual(check_code(less, 3)[0], "over", seed)
                    checked += 1
                elif literal[0] == "block":
                    self.assertEqual(literal[4], 0)
        self.assertGreater(checked, 100)

    def test_written_ones(self):
        for source in ["f", "f ^[^1] whileTrue: [self a: 1 b: 2 c: [3]]", "f [[^1] value] ensure: [nil ifTrue: [^2]]",
                       "f ^nil ifTrue: [^1] ifFalse: [^2]", "a: a b: b ^[:c | [:d | a + b]]"]:
            draft = compile_method(parse_method(source), [], [])
            self.assertIsNone(check_code(draft, 0), source)

    def test_many_words(self):
        draft = compile_method(parse_method("f ^" + "1 + (" * 20 + "2" + ")" * 20), [], [])
        self.assertEqual([draft.stack, check_code(draft, 0)], [21, None])

    def test_arguments_are_not_modified(self):
        for seed in range(60):
            draft = grown(seed)
            before = copy.deepcopy(draft)
            check_code(draft, 3)
            heights(draft)
            self.assertEqual(draft, before)

    def test_other_fields(self):
        # Point 10.7: only the numbers of fields differ, and all of them are there.
        for seed in range(200):
            tree = grow_method(random.Random(seed))
            one = compile_method(tree, NAMES[:3], NAMES[3:])
            other = compile_method(tree, ["first"] + NAMES[2::-1] + ["last"], NAMES[3:])
            self.assertEqual([op for op, _ in one.code], [op for op, _ in other.code])
            self.assertEqual([one.literals, one.stack, heights(one)], [other.literals, other.stack, heights(other)])
            self.assertEqual([check_code(one, 3), check_code(other, 5)], [None, None])
            for k, (op, arg) in enumerate(one.code):
                moved = 3 - arg if op in ("field", "set_field") else arg
                self.assertEqual(other.code[k], (op, moved))


def disturbed(draft, chance):
    """Returns a draft in which some things are otherwise."""
    other = copied(draft)
    for _ in range(chance.randrange(1, 4)):
        place = chance.randrange(len(other.code))
        op, arg = other.code[place]
        kind = chance.randrange(8)
        if kind == 0:
            other.code[place] = (chance.choice(OPS + ("none",)), arg)
        elif kind == 1:
            other.code[place] = (op, chance.choice([arg + 1, arg - 1, 0, 256, len(other.code), chance.randrange(len(other.code))]))
        elif kind == 2:
            other.code[place] = chance.choice(other.code)
        elif kind == 3 and len(other.code) > 1:
            del other.code[place]
        elif kind == 4:
            other.stack = chance.randrange(4)
        elif kind == 5:
            other.code.insert(place, (chance.choice(OPS), chance.randrange(3)))
        elif other.literals:
            k = chance.randrange(len(other.literals))
            if other.literals[k][0] == "block":
                numbers = list(other.literals[k])
                numbers[chance.randrange(1, 5)] = chance.choice([0, 1, 2, 5, place])
                other.literals[k] = tuple(numbers)
            else:
                other.literals[k] = chance.choice([("int", 3), ("selector", "foo"), ("selector", "+"), ("global", "a")])
    return other


def random_draft(chance):
    """Returns a draft that nobody compiled."""
    length = chance.randrange(1, 9)
    literals = []
    for _ in range(chance.randrange(4)):
        literals.append(chance.choice([("int", 1), ("global", "G"), ("selector", "a"), ("selector", "+"),
                                       ("block", 0, 1, chance.randrange(length), 2)]))
    code = []
    for _ in range(length):
        op = chance.choice(OPS + ("none",))
        arg = 0 if op in BARE else chance.choice([0, 0, 1, 1, 16, 17, 256, chance.randrange(length), length])
        code.append((op, arg))
    return Draft("f", 0, 1, chance.randrange(4), code, literals)


class Others(unittest.TestCase):
    """Drafts that nobody compiled, judged by a second reading of the rules."""

    def compare(self, drafts):
        found = {}
        for draft in drafts:
            fault = check_code(draft, 2)
            self.assertEqual(fault, judged(draft, 2), vars(draft))
            why = "none" if fault is None else fault[0]
            found[why] = found.get(why, 0) + 1
            if fault is None:
                walk(self, draft)
        return found

    def test_disturbed_ones(self):
        chance = random.Random(1)
        found = self.compare(disturbed(grown(seed % 300), chance) for seed in range(3000))
        self.assertLessEqual(FAULTS, set(found))

    def test_random_ones(self):
        chance = random.Random(2)
        found = self.compare(random_draft(chance) for _ in range(6000))
        self.assertLessEqual(FAULTS, set(found))


def walk(case, draft):
    """Goes through code without a fault, whichever way it goes: point 11.4."""
    chance = random.Random(3)
    told = heights(draft)
    routines = [(0, draft.locals, draft.stack, [])]
    for start, count, stack, around in routines:
        place, height = start, 0
        for _ in range(60):
            case.assertEqual(told[place], height)
            op, arg = draft.code[place]
            place += 1
            if op in ("local", "set_local"):
                case.assertLess(arg, count)
            elif op in ("outer", "set_outer"):
                case.assertLess(arg % 256, around[arg // 256 - 1])
            elif op in ("field", "set_field"):
                case.assertLess(arg, 2)
            if op in ("send", "super_send"):
                case.assertGreater(height, arg % 16)
                height -= arg % 16
            elif op in ("pop", "jump_false"):
                case.assertGreater(height, 0)
                height -= 1
            elif op not in ("jump", "return", "leave") and not op.startswith("set_"):
                height += 1
            else:
                case.assertTrue(height > 0 or op == "jump")
            case.assertLessEqual(height, stack)
            if op == "block" and len(routines) < 9:
                _, _, other, start, most = draft.literals[arg]
                routines.append((start, other, most, [count] + around))
            if op == "jump" or (op == "jump_false" and chance.random() < 0.5):
                place = arg
            if op in ("return", "leave"):
                break


if __name__ == "__main__":
    unittest.main()
