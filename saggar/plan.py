"""Plans: what the change of a class changes, told from names alone."""

from saggar.errors import BadClass
from saggar.kernel import KERNEL, MOST_FIELDS
from saggar.naming import is_field_name


class Kind:
    """A class, told by names."""

    def __init__(self, name, superclass, fields):
        self.name = name
        self.superclass = superclass
        self.fields = tuple(fields)


class Change:
    """All fields of a class before and behind."""

    def __init__(self, name, old, new):
        self.name = name
        self.old = tuple(old)
        self.new = tuple(new)
        # For each field behind its place among those before, or None.
        places = {field: at for at, field in enumerate(self.old)}
        self.origins = tuple([places.get(field) for field in self.new])


def plan_change(kinds, name, superclass, fields):
    """Returns the list of the changes of a class and of those below it."""
    before = by_name(kinds)
    check_classes(before, name, superclass)
    check_fields(fields)
    behind = dict(before)
    behind[name] = Kind(name, superclass, fields)
    changes = []
    for kind in kinds:
        if name in line_of(before, kind.name):
            new = fields_in(behind, kind.name)
            check_all_fields(new)
            changes.append(Change(kind.name, fields_in(before, kind.name), new))
    return changes


def all_fields(kinds, name):
    """Returns the list of all fields of a class."""
    return fields_in(by_name(kinds), name)


def is_under(kinds, name, other):
    """Returns True if a class is another one or below it."""
    return other in line_of(by_name(kinds), name)


def by_name(kinds):
    """Returns the dict of kinds by their names."""
    return {kind.name: kind for kind in kinds}


def line_of(table, name):
    """Returns the list of the names of a class and of all above it."""
    found = []
    while name is not None:
        found.append(name)
        name = table[name].superclass
    return found


def fields_in(table, name):
    """Returns the list of all fields of a class, those from above first."""
    found = []
    for above in reversed(line_of(table, name)):
        found.extend(table[above].fields)
    return found


def check_classes(table, name, superclass):
    """Raises BadClass if a class cannot be put below another one."""
    if name not in table:
        raise BadClass("name")
    if name in KERNEL:
        raise BadClass("kernel")
    if superclass not in table or (superclass in KERNEL and superclass != "Object"):
        raise BadClass("super")
    if name in line_of(table, superclass):
        raise BadClass("ring")


def check_fields(fields):
    """Raises BadClass if some own fields are none."""
    for at, field in enumerate(fields):
        if not is_field_name(field):
            raise BadClass("field")
        if field in fields[:at]:
            raise BadClass("twice")


def check_all_fields(fields):
    """Raises BadClass if a class would have a field twice, or too many."""
    if len(set(fields)) < len(fields):
        raise BadClass("twice")
    if len(fields) > MOST_FIELDS:
        raise BadClass("many")
