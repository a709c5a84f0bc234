"""Reshaping: a class gets other fields while its instances and contexts live."""

from saggar.census import Census
from saggar.errors import BadMethod, NoNumber, NoRoom, NoSymbol
from saggar.methods import code_words, draft_with, source_of
from saggar.plan import Kind, plan_change
from saggar.slots import CLASS_ABOVE, CLASS_FIELDS, CLASS_LAYOUT, METHOD_CODE, METHOD_OWNER
from saggar.slots import METHOD_SELECTOR, METHOD_SOURCE
from saggar.words import NIL, of_int, symbol_of


def reshape(image, name, superclass, fields):
    """Gives a class another superclass and other own fields, wholly or not at all."""
    changes = plan_change(kinds_of(image), name, superclass, fields)
    count = image.symbols.count()
    image.space.begin()
    try:
        carry_out(image, changes, Kind(name, superclass, fields))
    except (BadMethod, NoRoom, NoNumber, NoSymbol):
        image.symbols.cut(count)
        image.space.abort()
        raise
    image.space.commit()
    image.space.collect()


def kinds_of(image):
    """Returns the list of the kinds of the classes of an image, in the order of the globals."""
    return [kind_of(image, word) for word in image.class_words()]


def kind_of(image, word):
    """Returns the kind of a class."""
    above = image.get(word, CLASS_ABOVE)
    superclass = None if above == NIL else image.class_name(above)
    return Kind(image.class_name(word), superclass, image.own_fields(word))


def carry_out(image, changes, kind):
    """Makes what is new beside what is old, and puts it in its place.

    Nothing is collected meanwhile, so nothing that is made must be held.
    """
    census = Census(image, image.store().numbers())
    drafts = drafts_behind(image, census, changes)
    own = image.array([image.symbol(field) for field in kind.fields])
    for method, draft in drafts:
        image.put(method, METHOD_CODE, image.array_of("Code", code_words(draft)))
    for change in changes:
        word = image.class_named(change.name)
        image.put(word, CLASS_LAYOUT, of_int(len(change.new)))
        for instance in census.instances(word):
            move_slots(image, instance, change)
    changed = image.class_named(kind.name)
    image.put(changed, CLASS_FIELDS, own)
    image.put(changed, CLASS_ABOVE, image.class_named(kind.superclass))


def drafts_behind(image, census, changes):
    """Returns the pairs of the methods of the changed classes and their new drafts."""
    places = {image.class_named(change.name): at for at, change in enumerate(changes)}
    rows = []
    for method in census.all_of("Method"):
        owner = image.get(method, METHOD_OWNER)
        if owner in places:
            selector = symbol_of(image.get(method, METHOD_SELECTOR))
            source = symbol_of(image.get(method, METHOD_SOURCE))
            rows.append((places[owner], selector, source, method))
    return [(method, draft_behind(image, method, changes[at])) for at, _, _, method in sorted(rows)]


def draft_behind(image, method, change):
    """Returns the draft of a method with the fields behind a change."""
    return draft_with(image, image.get(method, METHOD_OWNER), source_of(image, method), list(change.new))


def move_slots(image, instance, change):
    """Gives an instance the fields behind a change; it keeps its number."""
    store = image.store()
    before = image.row(instance)
    made = image.space.new(image.class_of(instance), len(change.new))
    for at, origin in enumerate(change.origins):
        if origin is not None:
            store.put(made, at, before[origin])
    store.exchange(instance // 2, made)
