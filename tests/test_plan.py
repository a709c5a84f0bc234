"""Plans: points 19.1 to 19.3."""

import random
import unittest

from saggar.errors import BadClass
from saggar.kernel import KERNEL
from saggar.plan import Change, Kind, all_fields, is_under, plan_change

BASE = [Kind(KERNEL[0], None, ())] + [Kind(name, "Object", ()) for name in KERNEL[1:]]


def kinds_with(*rows):
    return BASE + [Kind(name, superclass, fields) for name, superclass, fields in rows]


# B and C are below A; D is not.
FAMILY = (("A", "Object", ("x", "y")), ("B", "A", ("z",)), ("C", "B", ("w",)), ("D", "Object", ("u", "z")))


def rows_of(kinds):
    """Returns all that a list of kinds tells."""
    return [(kind.name, kind.superclass, kind.fields) for kind in kinds]


def told(changes):
    return [(change.name, change.old, change.new, change.origins) for change in changes]


class Kinds(unittest.TestCase):
    def test_attributes(self):
        fields = ["x", "y"]
        kind = Kind("A", "Object", fields)
        fields.append("z")
        self.assertEqual([kind.name, kind.superclass, kind.fields], ["A", "Object", ("x", "y")])
        self.assertEqual(Kind("Object", None, []).superclass, None)

    def test_changes(self):
        change = Change("A", ("x", "y"), ("y", "w", "x"))
        self.assertEqual([change.name, change.old, change.new, change.origins],
                         ["A", ("x", "y"), ("y", "w", "x"), (1, None, 0)])
        change = Change("A", ["x"], [])
        self.assertEqual([change.old, change.new, change.origins], [("x",), (), ()])
        self.assertEqual(Change("A", (), ("x",)).origins, (None,))

    def test_all_fields(self):
        kinds = kinds_with(*FAMILY)
        self.assertEqual(all_fields(kinds, "C"), ["x", "y", "z", "w"])
        self.assertEqual([all_fields(kinds, "A"), all_fields(kinds, "D")], [["x", "y"], ["u", "z"]])
        self.assertEqual([all_fields(kinds, "Object"), all_fields(kinds, "Array")], [[], []])

    def test_is_under(self):
        kinds = kinds_with(*FAMILY)
        names = [kind.name for kind in kinds]
        above = {"A": ["A", "Object"], "B": ["B", "A", "Object"], "C": ["C", "B", "A", "Object"], "D": ["D", "Object"],
                 "Object": ["Object"], "Array": ["Array", "Object"]}
        for name, line in above.items():
            self.assertEqual([other for other in names if is_under(kinds, name, other) is True], sorted(line, key=names.index))
            self.assertEqual([other for other in names if is_under(kinds, name, other) is False],
                             [other for other in names if other not in line])

    def test_long_lines(self):
        rows = [("C0", "Object", ("x",))] + [("C" + str(k), "C" + str(k - 1), ()) for k in range(1, 1500)]
        kinds = kinds_with(*rows)
        self.assertEqual(all_fields(kinds, "C1499"), ["x"])
        self.assertTrue(is_under(kinds, "C1499", "C0"))
        changes = plan_change(kinds, "C0", "Object", ["y", "x"])
        self.assertEqual([len(changes), changes[-1].origins], [1500, (None, 0)])


class Refusals(unittest.TestCase):
    def refused(self, why, name, superclass, fields, kinds=None):
        kinds = kinds_with(*FAMILY) if kinds is None else kinds
        with self.assertRaises(BadClass) as caught:
            plan_change(kinds, name, superclass, fields)
        self.assertEqual(caught.exception.why, why, (name, superclass, fields))

    def test_names(self):
        self.refused("name", "E", "Object", [])
        self.refused("name", "a", "Object", [])
        self.refused("name", "", "Object", [])

    def test_kernel(self):
        for name in KERNEL:
            self.refused("kernel", name, "Object", [])

    def test_superclasses(self):
        self.refused("super", "A", "E", [])
        for name in KERNEL[1:]:
            self.refused("super", "A", name, [])

    def test_rings(self):
        for name in "ABC":
            self.refused("ring", "A", name, [])
        self.refused("ring", "B", "C", [])
        self.assertEqual(len(plan_change(kinds_with(*FAMILY), "C", "A", [])), 1)

    def test_fields(self):
        for field in ("X", "", "1x", "x y", "nil", "true", "false", "self", "super", "x:", "x" * 33, "X1"):
            self.refused("field", "A", "Object", [field])
            self.refused("field", "A", "Object", ["ok", field])
        self.refused("twice", "A", "Object", ["a", "b", "a"])
        self.assertEqual(plan_change(kinds_with(*FAMILY), "D", "Object", ["x" * 32])[0].new, ("x" * 32,))

    def test_field_by_field(self):
        self.refused("twice", "A", "Object", ["a", "a", "X"])
        self.refused("field", "A", "Object", ["a", "X", "a"])

    def test_twice_in_a_class(self):
        # In the class itself, with a new superclass.
        self.refused("twice", "A", "D", ["u"])
        self.refused("twice", "C", "D", ["z"])
        # In a class below.
        self.refused("twice", "A", "Object", ["z"])
        self.refused("twice", "A", "Object", ["w"])
        self.refused("twice", "A", "D", ["a"])

    def test_many(self):
        many = ["f" + str(k) for k in range(33)]
        self.refused("many", "D", "Object", many)
        self.assertEqual(plan_change(kinds_with(*FAMILY), "D", "Object", many[:32])[0].new, tuple(many[:32]))
        # C has two fields more.
        self.refused("many", "A", "Object", many[:31])
        self.assertEqual(len(plan_change(kinds_with(*FAMILY), "A", "Object", many[:30])[2].new), 32)

    def test_class_by_class(self):
        many = ["f" + str(k) for k in range(32)]
        # B is too large before C has a field twice.
        kinds = kinds_with(("A", "Object", ()), ("B", "A", ("b",)), ("C", "A", ("f1",)))
        self.refused("many", "A", "Object", many, kinds)
        kinds = kinds_with(("A", "Object", ()), ("C", "A", ("f1",)), ("B", "A", ("b",)))
        self.refused("twice", "A", "Object", many, kinds)
        # Within a class, twice comes first.
        kinds = kinds_with(("A", "Object", ()), ("B", "A", ("b", "f1")))
        self.refused("twice", "A", "Object", many, kinds)
        # The order is that of the list, also if a class stands before the one above it.
        kinds = kinds_with(("B", "A", ("f1",)), ("A", "Object", ()))
        self.refused("twice", "A", "Object", many + ["more"], kinds)
        kinds = kinds_with(("A", "Object", ()), ("B", "A", ("f1",)))
        self.refused("many", "A", "Object", many + ["more"], kinds)

    def test_the_order(self):
        kinds = kinds_with(*FAMILY)
        bad = ["X", "a", "a"]
        self.refused("name", "E", "E", bad, kinds)
        self.refused("kernel", "Array", "E", bad, kinds)
        self.refused("super", "A", "E", bad, kinds)
        self.refused("super", "A", "Array", bad, kinds)
        self.refused("ring", "A", "A", bad, kinds)
        self.refused("field", "A", "D", bad, kinds)
        self.refused("twice", "A", "D", bad[1:], kinds)


class Changes(unittest.TestCase):
    def test_places(self):
        changes = plan_change(kinds_with(*FAMILY), "A", "Object", ["y", "n", "x"])
        self.assertEqual(told(changes), [
            ("A", ("x", "y"), ("y", "n", "x"), (1, None, 0)),
            ("B", ("x", "y", "z"), ("y", "n", "x", "z"), (1, None, 0, 2)),
            ("C", ("x", "y", "z", "w"), ("y", "n", "x", "z", "w"), (1, None, 0, 2, 3))])

    def test_another_superclass(self):
        changes = plan_change(kinds_with(*FAMILY), "C", "D", ["x", "w"])
        self.assertEqual(told(changes), [("C", ("x", "y", "z", "w"), ("u", "z", "x", "w"), (None, 2, 0, 3))])
        changes = plan_change(kinds_with(*FAMILY), "B", "Object", [])
        self.assertEqual(told(changes), [("B", ("x", "y", "z"), (), ()), ("C", ("x", "y", "z", "w"), ("w",), (3,))])

    def test_fields_that_stay(self):
        changes = plan_change(kinds_with(*FAMILY), "B", "A", ["z"])
        self.assertEqual(told(changes), [("B", ("x", "y", "z"), ("x", "y", "z"), (0, 1, 2)),
                                         ("C", ("x", "y", "z", "w"), ("x", "y", "z", "w"), (0, 1, 2, 3))])

    def test_the_order_of_the_list(self):
        kinds = kinds_with(("C", "B", ()), ("D", "Object", ()), ("B", "A", ("z",)), ("A", "Object", ()))
        self.assertEqual([change.name for change in plan_change(kinds, "A", "Object", ["a"])], ["C", "B", "A"])

    def test_what_is_passed_stays(self):
        kinds, fields = kinds_with(*FAMILY), ["y", "n"]
        before = rows_of(kinds)
        plan_change(kinds, "A", "Object", fields)
        with self.assertRaises(BadClass):
            plan_change(kinds, "A", "Object", ["z"])
        all_fields(kinds, "C").append("more")
        self.assertEqual([rows_of(kinds), fields, all_fields(kinds, "C")], [before, ["y", "n"], ["x", "y", "z", "w"]])


NAMES = ["Object", "Array", "A", "B", "C", "D", "E", "Nobody"]


def second_reading(rows, name, superclass, fields):
    """Returns the word of the refusal, or the list of the changes."""
    table = {row[0]: row for row in rows}

    def line(known, other):
        return [] if other is None else line(known, known[other][1]) + [other]

    def whole(known, other):
        return [field for part in line(known, other) for field in known[part][2]]

    if name not in table:
        return "name"
    if name in KERNEL:
        return "kernel"
    if superclass not in table or superclass in KERNEL[1:]:
        return "super"
    if name in line(table, superclass):
        return "ring"
    for k, field in enumerate(fields):
        if not field.isalnum() or not field[0].islower() or field in ("nil", "self"):
            return "field"
        if field in fields[:k]:
            return "twice"
    behind = dict(table)
    behind[name] = (name, superclass, tuple(fields))
    found = []
    for other, _, _ in rows:
        if name in line(table, other):
            new, old = whole(behind, other), whole(table, other)
            if any(new.count(field) > 1 for field in new):
                return "twice"
            if len(new) > 32:
                return "many"
            found.append((other, tuple(old), tuple(new), tuple(old.index(f) if f in old else None for f in new)))
    return found


class AtRandom(unittest.TestCase):
    def test_against_a_second_reading(self):
        chance, seen = random.Random(3), {}
        pool = ["a", "b", "c", "d", "e", "f", "g", "h"]
        for _ in range(4000):
            made = []
            for name in chance.sample("ABCDE", chance.randrange(1, 6)):
                superclass = chance.choice(["Object"] + [row[0] for row in made])
                taken = {row[0]: row for row in made}
                used, other = [], superclass
                while other in taken:
                    used += taken[other][2]
                    other = taken[other][1]
                free = [field for field in pool if field not in used]
                count = min(len(free), chance.choice([0, 0, 1, 2]))
                big = tuple("n" + str(k) for k in range(30)) if not used and chance.random() < 0.1 else ()
                made.append((name, superclass, tuple(chance.sample(free, count)) + big))
            chance.shuffle(made)
            kinds = kinds_with(*made)
            name = chance.choice(NAMES[2:]) if chance.random() < 0.9 else chance.choice(NAMES)
            superclass = chance.choice(NAMES)
            fields = chance.sample(pool, chance.randrange(4)) + chance.choice([[], [], [], [], ["a"], ["X"], ["nil"]])
            expected = second_reading(rows_of(kinds), name, superclass, fields)
            try:
                found = told(plan_change(kinds, name, superclass, fields))
            except BadClass as error:
                found = error.why
            self.assertEqual(found, expected)
            key = found if isinstance(found, str) else len(found)
            seen[key] = seen.get(key, 0) + 1
        for key in ("name", "kernel", "super", "ring", "field", "twice", "many", 1, 2, 3):
            self.assertGreater(seen[key], 10, key)


if __name__ == "__main__":
    unittest.main()
