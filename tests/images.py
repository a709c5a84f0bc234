"""Images for tests: pictures of them, and want of room, numbers and symbols."""

from saggar.errors import NoNumber, NoRoom, NoSymbol


def picture(image):
    """Returns what the roots and held words reach, whatever the numbers of objects."""
    return picture_from(image, image.space.all_roots())


def picture_from(image, words):
    """Returns what some words reach, whatever the numbers of objects."""
    store = image.store()
    numbers = {}
    rows = [list(words)]
    found = []
    for row in rows:
        told = []
        for word in row:
            if word % 2 == 0 and store.exists(word // 2):
                if word not in numbers:
                    numbers[word] = len(numbers)
                    rows.append([store.kind(word // 2)] + store.slots(word // 2))
                told.append(("object", numbers[word]))
            else:
                told.append(word)
        found.append(told)
    return found


def whole(image):
    """Returns all that an action that raises an error must leave as it was."""
    return [picture(image), image.space.held(), image.trace[:]]


def close_up_numbers(image):
    """Holds new objects until the numbers of all objects have no gap."""
    image.space.collect()
    store = image.store()
    while len(store.numbers()) > 0 and store.numbers()[-1] >= len(store.numbers()):
        image.space.hold(2 * image.space.new(0, 0))


def sizes_made(image, action):
    """Returns the sizes of the objects that an action makes."""
    space, sizes = image.space, []
    plain = space.new

    def recorded(kind, size):
        sizes.append(size)
        return plain(kind, size)

    space.new = recorded
    action(image)
    del space.new
    return sizes


def check_want_of_room(case, build, action):
    """Lets an action find no room at each allocation, and then enough."""
    sizes = sizes_made(build(), action)
    case.assertGreater(len(sizes), 0)
    for k, size in enumerate(sizes):
        image = build()
        before = whole(image)
        taken = image.space.live_words() + sum(3 + other for other in sizes[:k])
        image.store().room = taken + 3 + size - 1
        with case.assertRaises(NoRoom) as caught:
            action(image)
        case.assertEqual(caught.exception.need, 3 + size)
        case.assertEqual(whole(image), before)
    # Just enough room is enough, whenever the space collects.
    for always in (False, True):
        image = build()
        image.store().room = image.space.live_words() + sum(3 + size for size in sizes)
        image.space.press([], always=always)
        action(image)
    return sizes


def check_want_of_numbers(case, build, action):
    """Lets an action find no number at each allocation, and then enough."""
    sizes = sizes_made(build(), action)
    for k in range(len(sizes) + 1):
        image = build()
        close_up_numbers(image)
        before = whole(image)
        image.store().entries = len(image.store().numbers()) + k
        if k == len(sizes):
            action(image)
        else:
            with case.assertRaises(NoNumber) as caught:
                action(image)
            case.assertEqual(caught.exception.limit, image.store().entries)
            case.assertEqual(whole(image), before)


def check_want_of_symbols(case, build, action, texts):
    """Lets an action find no number for each new symbol; these are its texts."""
    image = build()
    known = image.symbols.texts()
    action(image)
    case.assertEqual(image.symbols.texts(), known + texts)
    for k in range(len(texts)):
        image = build()
        before = whole(image)
        image.symbols.most = len(known) + k
        with case.assertRaises(NoSymbol) as caught:
            action(image)
        case.assertEqual(caught.exception.limit, len(known) + k)
        case.assertEqual(whole(image), before)
