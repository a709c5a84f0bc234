"""Processes: who runs, who is ready, and who waits for a semaphore."""

from saggar.contexts import block_context, method_context
from saggar.errors import NoNumber, NoRoom, Trouble
from saggar.kernel import FALSE, FIRST_READY, LAST_READY, NEXT_NUMBER, RUNNING, TRUE
from saggar.slots import PROCESS_CONTEXT, PROCESS_NEXT, PROCESS_NUMBER, PROCESS_RESULT, PROCESS_STATE
from saggar.slots import SEMAPHORE_COUNT, SEMAPHORE_FIRST, SEMAPHORE_LAST
from saggar.words import GREATEST, NIL, int_of, is_int, is_symbol, of_int

# The states of a process.
READY = 0
WAITING = 1
ENDED = 2


def running(image):
    """Returns the word of the running process, or nil."""
    return image.space.root(RUNNING)


def current(image):
    """Returns the word of the context of the running process."""
    return image.get(running(image), PROCESS_CONTEXT)


def go_on(image, context):
    """Lets the running process carry out another context next."""
    image.put(running(image), PROCESS_CONTEXT, context)


def ready(image):
    """Returns the list of the words of the ready processes, in order."""
    found = []
    process = image.space.root(FIRST_READY)
    while process != NIL:
        found.append(process)
        process = image.get(process, PROCESS_NEXT)
    return found


def spawn(image, method, receiver, arguments):
    """Returns the word of a new process that carries out a method."""
    check_number(image)
    count = image.space.held()
    for word in [method, receiver] + list(arguments):
        image.keep(word)
    try:
        context = image.keep(method_context(image, NIL, method, receiver, arguments))
        process = new_process(image, context)
    except (NoRoom, NoNumber):
        image.let_go(count)
        raise
    image.let_go(count)
    return process


def spawn_block(image, block):
    """Returns the word of a new process that carries out a block."""
    check_number(image)
    count = image.space.held()
    image.keep(block)
    try:
        context = image.keep(block_context(image, NIL, block, []))
        process = new_process(image, context)
    except (NoRoom, NoNumber):
        image.let_go(count)
        raise
    image.let_go(count)
    return process


def check_number(image):
    """Raises NoNumber if there is no number behind that of the next process."""
    if image.space.root(NEXT_NUMBER) == of_int(GREATEST):
        raise NoNumber(GREATEST)


def new_process(image, context):
    """Returns the word of a new process, which is ready."""
    number = image.space.root(NEXT_NUMBER)
    process = image.array_of("Process", [context, NIL, number, of_int(READY), NIL])
    image.space.set_root(NEXT_NUMBER, of_int(int_of(number) + 1))
    make_ready(image, process)
    return process


def make_ready(image, process):
    """Puts a process behind all ready ones."""
    last = image.space.root(LAST_READY)
    if last == NIL:
        image.space.set_root(FIRST_READY, process)
    else:
        image.put(last, PROCESS_NEXT, process)
    image.space.set_root(LAST_READY, process)


def choose(image, number):
    """Lets a ready process run."""
    order = ready(image)
    at = number % len(order)
    process = order[at]
    behind = image.get(process, PROCESS_NEXT)
    if at == 0:
        image.space.set_root(FIRST_READY, behind)
    else:
        image.put(order[at - 1], PROCESS_NEXT, behind)
    if behind == NIL:
        image.space.set_root(LAST_READY, NIL if at == 0 else order[at - 1])
    image.put(process, PROCESS_NEXT, NIL)
    image.space.set_root(RUNNING, process)


def number_of(image, process):
    """Returns the number of a process."""
    return int_of(image.get(process, PROCESS_NUMBER))


def shown(image, word):
    """Returns what a word looks like from outside."""
    if is_int(word):
        return ("int", int_of(word))
    if is_symbol(word):
        return ("symbol", image.text(word))
    if word == NIL:
        return ("nil",)
    if word == TRUE:
        return ("true",)
    if word == FALSE:
        return ("false",)
    return ("object", image.class_name(image.class_of(word)))


def give_way(image):
    """Puts the running process behind the ready ones."""
    process = running(image)
    image.space.set_root(RUNNING, NIL)
    make_ready(image, process)


def wait(image, semaphore):
    """Lets the running process wait for a semaphore, if it must."""
    count = int_of(image.get(semaphore, SEMAPHORE_COUNT))
    if count > 0:
        image.put(semaphore, SEMAPHORE_COUNT, of_int(count - 1))
        return
    process = running(image)
    image.space.set_root(RUNNING, NIL)
    image.put(process, PROCESS_STATE, of_int(WAITING))
    last = image.get(semaphore, SEMAPHORE_LAST)
    if last == NIL:
        image.put(semaphore, SEMAPHORE_FIRST, process)
    else:
        image.put(last, PROCESS_NEXT, process)
    image.put(semaphore, SEMAPHORE_LAST, process)


def signal(image, semaphore):
    """Lets the first process that waits go on, or counts the signal."""
    process = image.get(semaphore, SEMAPHORE_FIRST)
    if process == NIL:
        count = int_of(image.get(semaphore, SEMAPHORE_COUNT))
        if count == GREATEST:
            raise Trouble(("overflow",))
        image.put(semaphore, SEMAPHORE_COUNT, of_int(count + 1))
        return
    behind = image.get(process, PROCESS_NEXT)
    image.put(semaphore, SEMAPHORE_FIRST, behind)
    if behind == NIL:
        image.put(semaphore, SEMAPHORE_LAST, NIL)
    image.put(process, PROCESS_NEXT, NIL)
    image.put(process, PROCESS_STATE, of_int(READY))
    make_ready(image, process)


def end_with_value(image, word):
    """Ends the running process with a value."""
    end(image, word, ("value", shown(image, word)))


def end_with_error(image, error):
    """Ends the running process with an error, a tuple of words."""
    end(image, NIL, tuple(["error"] + list(error)))


def end(image, result, what):
    """Ends the running process; adds what comes of it to the trace."""
    process = running(image)
    image.space.set_root(RUNNING, NIL)
    image.put(process, PROCESS_CONTEXT, NIL)
    image.put(process, PROCESS_STATE, of_int(ENDED))
    image.put(process, PROCESS_RESULT, result)
    image.trace.append(("end", number_of(image, process), what))
