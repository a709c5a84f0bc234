"""Methods: sources are compiled to objects that classes have."""

from saggar.checking import check_code
from saggar.coding import compile_method
from saggar.errors import BadCode, BadMethod, NoNumber, NoRoom, NoSymbol, SaggarError
from saggar.listing import number_of
from saggar.lookup import put_method
from saggar.parsing import parse_method
from saggar.slots import METHOD_SOURCE
from saggar.words import of_int


def install(image, owner, source):
    """Compiles a method and puts it into a class; returns its word."""
    draft = draft_for(image, owner, source)
    count = image.space.held()
    try:
        method = make_method(image, owner, source, draft)
        put_method(image, owner, image.symbol(draft.selector), method)
    except (NoRoom, NoNumber, NoSymbol):
        image.let_go(count)
        raise
    image.let_go(count)
    return method


def source_of(image, method):
    """Returns the source of a method."""
    return image.text(image.get(method, METHOD_SOURCE))


def draft_for(image, owner, source):
    """Returns the Draft of a source for a class; raises BadMethod."""
    return draft_with(image, owner, source, image.fields(owner))


def draft_with(image, owner, source, fields):
    """Returns the Draft that a source would have for a class with other fields."""
    tree = tree_for(image, owner, source)
    name = image.class_name(owner)
    try:
        draft = compile_method(tree, fields, image.global_names())
    except SaggarError as error:
        raise BadMethod(name, tree[1], error) from error
    fault = check_code(draft, len(fields))
    if fault is not None:
        raise BadMethod(name, tree[1], BadCode(fault[0], fault[1]))
    return draft


def tree_for(image, owner, source):
    """Returns the tree of a source for a class; raises BadMethod."""
    try:
        return parse_method(source)
    except SaggarError as error:
        raise BadMethod(image.class_name(owner), "", error) from error


def make_method(image, owner, source, draft):
    """Returns the word of a new method; all that is made is held."""
    make_symbols(image, source, draft)
    code = image.keep(image.array_of("Code", code_words(draft)))
    literals = image.keep(image.array([literal_word(image, literal) for literal in draft.literals]))
    numbers = [of_int(draft.argc), of_int(draft.locals), of_int(draft.stack)]
    words = [image.symbol(draft.selector), owner, image.symbol(source), code, literals] + numbers
    return image.keep(image.array_of("Method", words))


def make_symbols(image, source, draft):
    """Makes the symbols of a method, before any object."""
    image.symbol(draft.selector)
    image.symbol(source)
    for literal in draft.literals:
        if literal[0] in ("symbol", "selector"):
            image.symbol(literal[1])


def code_words(draft):
    """Returns the list of the words of the code of a draft."""
    return [of_int(number_of(op, arg)) for op, arg in draft.code]


def literal_word(image, literal):
    """Returns the word of a literal; the Array of a block is held."""
    kind = literal[0]
    if kind == "int":
        return of_int(literal[1])
    if kind == "global":
        return image.association(literal[1])
    if kind == "block":
        return image.keep(image.array([of_int(number) for number in literal[1:]]))
    return image.symbol(literal[1])
