"""The interface of the modules from checking on: names and arguments."""

import importlib
import inspect
import unittest

FUNCTIONS = {
    "checking": ["check_code(draft, fields)", "heights(draft)"],
    "listing": ["number_of(op, arg)", "instruction_of(number)", "list_draft(draft)", "read_listing(lines)"],
    "kernel": ["new_image(room, entries)", "define_class(image, name, superclass, fields)", "define_global(image, name)"],
    "lookup": ["own_method(image, word, selector)", "lookup(image, word, selector)", "put_method(image, word, selector, method)",
               "selectors(image, word)"],
    "methods": ["install(image, owner, source)", "source_of(image, method)"],
    "contexts": ["method_context(image, sender, method, receiver, arguments)", "block_context(image, sender, block, arguments)",
                 "push(image, context, word)", "pop(image, context)", "peek(image, context, depth)", "drop(image, context, count)",
                 "stack_of(image, context)", "outwards(image, context, distance)", "home_of(image, context)",
                 "callers(image, context)"],
    "primitives": ["install_primitives(image)", "perform(image, number, context, count)"],
    "returning": ["answer(image, context, word)", "return_from(image, context, home, word)"],
    "stepping": ["step(image)"],
    "processes": ["running(image)", "current(image)", "ready(image)", "spawn(image, method, receiver, arguments)",
                  "spawn_block(image, block)", "choose(image, number)", "number_of(image, process)", "shown(image, word)",
                  "wait(image, semaphore)", "signal(image, semaphore)", "give_way(image)"],
    "running": ["run_image(image, choices, limit)"],
    "states": ["state_fault(image)"],
    "plan": ["plan_change(kinds, name, superclass, fields)", "all_fields(kinds, name)", "is_under(kinds, name, other)"],
    "reshaping": ["reshape(image, name, superclass, fields)", "kinds_of(image)"],
    "images": ["saved(image)", "loaded(numbers)"],
    "faults": ["fault_of(image)"],
    "worlds": ["fresh_image(room, entries)", "start(image, source)", "run_script(room, entries, commands)"],
    "inspecting": ["word_at(space, path)", "paths(space)", "garbage(space)", "retained(space, place)", "owners(space)",
                   "retained_words(space)"],
    "comparing": ["compare(one, other)", "judge(one, other, verdict)", "alike_images(one, other)"],
}
IMAGE = ["store()", "symbol(text)", "text(word)", "kernel(name)", "class_of(word)", "class_named(name)", "class_name(word)",
         "own_fields(word)", "fields(word)", "layout(word)", "get(word, at)", "put(word, at, other)", "items(word)",
         "new(name, size)", "array(words)", "array_of(name, words)", "association(name)", "holds_class(association)",
         "global_names()", "class_words()", "is_class(word)", "is_below(word, other)", "__init__(room, entries)"]
CLASSES = {
    ("kernel", "Image"): IMAGE,
    ("plan", "Kind"): ["__init__(name, superclass, fields)"],
    ("plan", "Change"): ["__init__(name, old, new)"],
    ("worlds", "World"): ["__init__(image)", "obey(command)"],
    ("history", "History"): ["__init__(image, choices, gap, names)", "advance(count)", "steps()", "kept()", "at(step)", "changes()",
                             "value(name, step)", "setter(name, step)", "first_break(wish)", "branch(step, choices)"],
}
VALUES = {
    "kernel": ["KERNEL", "TRUE", "FALSE"],
    "contexts": ["SENDER", "METHOD", "PC", "TOP", "RECEIVER", "OUTER", "DESCRIPTOR", "FIXED"],
    "primitives": ["PRIMITIVES"],
    "returning": ["ENSURE", "ENSURE_SOURCE"],
    "worlds": ["PRELUDE"],
}


def told(function):
    """Returns the name and the arguments of a function, without the object of a method."""
    names = [name for name in inspect.signature(function).parameters if name != "self"]
    return function.__name__ + "(" + ", ".join(names) + ")"


class Interface(unittest.TestCase):
    def test_functions(self):
        for module, rows in FUNCTIONS.items():
            found = importlib.import_module("saggar." + module)
            for row in rows:
                function = getattr(found, row.split("(")[0])
                self.assertEqual([told(function), function.__module__], [row, "saggar." + module])

    def test_classes(self):
        for (module, name), rows in CLASSES.items():
            found = getattr(importlib.import_module("saggar." + module), name)
            for row in rows:
                self.assertEqual(told(vars(found)[row.split("(")[0]]), row)
            self.assertEqual(found.__module__, "saggar." + module)

    def test_values(self):
        for module, names in VALUES.items():
            found = importlib.import_module("saggar." + module)
            for name in names:
                self.assertTrue(hasattr(found, name), name)


if __name__ == "__main__":
    unittest.main()
