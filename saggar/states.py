"""States: what holds of blocks, contexts, processes and semaphores between two steps."""

from saggar.census import Census, is_between
from saggar.contexts import DESCRIPTOR, FIXED, METHOD, OUTER, PC, RECEIVER, SENDER, TOP, number_in, stack_of
from saggar.kernel import FIRST_READY, LAST_READY, NEXT_NUMBER, RUNNING
from saggar.processes import ENDED, READY, WAITING
from saggar.routines import routines_of
from saggar.slots import BLOCK_DESCRIPTOR, BLOCK_OUTER, BLOCK_SIZE, METHOD_CODE
from saggar.slots import PROCESS_CONTEXT, PROCESS_NEXT, PROCESS_NUMBER, PROCESS_RESULT, PROCESS_SIZE, PROCESS_STATE
from saggar.slots import SEMAPHORE_COUNT, SEMAPHORE_FIRST, SEMAPHORE_LAST, SEMAPHORE_SIZE
from saggar.words import GREATEST, NIL, int_of, of_int


def state_fault(image):
    """Returns None, or the word of the first rule that does not hold."""
    census = Census(image, image.store().numbers())
    survey = Survey(image)
    if not all([survey.is_block(word) for word in census.all_of("Block")]):
        return "block"
    if not all([survey.is_activation(word) for word in census.all_of("Context")]):
        return "context"
    if not survey.has_order():
        return "process"
    if not all([survey.is_semaphore(word) for word in census.all_of("Semaphore")]):
        return "semaphore"
    processes = census.all_of("Process")
    if not survey.has_numbers(processes) or not all([survey.is_settled(word) for word in processes]):
        return "process"
    return None


class Survey:
    """Asks the rules one after the other: later ones rely on earlier ones."""

    def __init__(self, image):
        self.image = image
        # The routines of methods that have been asked for.
        self.known = {}
        # The processes that stand in a list, or run.
        self.listed = {}
        # The contexts that stand in the chain of a process.
        self.chained = {}

    def has_size(self, word, name, size):
        """Returns True if a word refers to an object of a kernel class with enough slots."""
        return self.image.is_a(word, name) and self.image.store().size(word // 2) >= size

    def is_context(self, word):
        """Returns True if a word refers to a context."""
        return self.has_size(word, "Context", FIXED)

    def routines(self, method):
        """Returns the dict of the routines of a method, {} if it is none."""
        if method not in self.known:
            self.known[method] = routines_of(self.image, method)
        return self.known[method]

    def routine(self, context):
        """Returns the routine of a context, or None."""
        routines = self.routines(self.image.get(context, METHOD))
        return routines.get(self.image.get(context, DESCRIPTOR))

    def makes(self, context, routine):
        """Returns True if the routine of a context makes the block of another routine."""
        maker = self.routine(context)
        return maker is not None and maker.descriptor == routine.maker

    def is_block(self, word):
        """Asks the first rule of a block."""
        row = self.image.row(word)
        if len(row) != BLOCK_SIZE or not self.is_context(row[BLOCK_OUTER]):
            return False
        routine = self.routines(self.image.get(row[BLOCK_OUTER], METHOD)).get(row[BLOCK_DESCRIPTOR])
        return routine is not None and self.makes(row[BLOCK_OUTER], routine)

    def is_activation(self, word):
        """Asks the second rule of a context."""
        row = self.image.row(word)
        if len(row) < FIXED:
            return False
        routine = self.routine(word)
        if routine is None or len(row) != FIXED + routine.locals + routine.stack:
            return False
        length = self.image.store().size(self.image.get(row[METHOD], METHOD_CODE) // 2)
        if not is_between(row[PC], 0, length) or not is_between(row[TOP], 0, routine.stack):
            return False
        above = row[FIXED + routine.locals + int_of(row[TOP]):]
        if above.count(NIL) != len(above):
            return False
        if row[SENDER] != NIL and not self.is_context(row[SENDER]):
            return False
        return self.is_placed(row, routine)

    def is_placed(self, row, routine):
        """Returns True if the context outwards is the one of which a routine tells."""
        outer = row[OUTER]
        if row[DESCRIPTOR] == NIL:
            return outer == NIL
        if not self.is_context(outer) or not self.makes(outer, routine):
            return False
        return self.image.get(outer, METHOD) == row[METHOD] and self.image.get(outer, RECEIVER) == row[RECEIVER]

    def has_order(self):
        """Asks the third rule."""
        space = self.image.space
        # The running process is a list of its own.
        if self.linked(space.root(RUNNING), space.root(RUNNING), READY) is None:
            return False
        return self.linked(space.root(FIRST_READY), space.root(LAST_READY), READY) is not None

    def linked(self, first, last, state):
        """Returns the list of the processes in a state from the first to the last one.

        Returns None if they are not linked so, or one stands in another list.
        """
        order = []
        reached = NIL
        word = first
        while word != NIL:
            if not self.has_size(word, "Process", PROCESS_SIZE) or word in self.listed:
                return None
            if self.image.get(word, PROCESS_STATE) != of_int(state):
                return None
            self.listed[word] = True
            order.append(word)
            reached = word
            word = self.image.get(word, PROCESS_NEXT)
        return order if reached == last else None

    def is_semaphore(self, word):
        """Asks the fourth rule of a semaphore."""
        row = self.image.row(word)
        if len(row) != SEMAPHORE_SIZE or not is_between(row[SEMAPHORE_COUNT], 0, GREATEST):
            return False
        order = self.linked(row[SEMAPHORE_FIRST], row[SEMAPHORE_LAST], WAITING)
        if order is None or (order and row[SEMAPHORE_COUNT] != of_int(0)):
            return False
        return all([self.awaits(process, word) for process in order])

    def awaits(self, process, semaphore):
        """Returns True if a semaphore is the topmost word on the stack of a process."""
        context = self.image.get(process, PROCESS_CONTEXT)
        return self.is_context(context) and stack_of(self.image, context)[-1:] == [semaphore]

    def has_numbers(self, processes):
        """Asks the fifth rule of the numbers of all processes."""
        following = self.image.space.root(NEXT_NUMBER)
        if not is_between(following, 1, GREATEST):
            return False
        found = {}
        for word in processes:
            row = self.image.row(word)
            if len(row) != PROCESS_SIZE or not is_between(row[PROCESS_NUMBER], 1, int_of(following) - 1):
                return False
            found[row[PROCESS_NUMBER]] = True
        return len(found) == len(processes)

    def is_settled(self, word):
        """Asks the fifth rule of a process, beside its number."""
        row = self.image.row(word)
        if row[PROCESS_STATE] == of_int(ENDED):
            return row[PROCESS_CONTEXT] == NIL and row[PROCESS_NEXT] == NIL
        if word not in self.listed or row[PROCESS_RESULT] != NIL:
            return False
        return self.is_chain(row[PROCESS_CONTEXT])

    def is_chain(self, context):
        """Returns True if a process may carry out a context and then its senders."""
        if not self.is_context(context):
            return False
        # What a sender waits for will make its stack higher.
        awaited = 0
        while context != NIL:
            if context in self.chained:
                return False
            self.chained[context] = True
            height = number_in(self.image, context, TOP) + awaited
            if self.routine(context).heights.get(number_in(self.image, context, PC)) != height:
                return False
            awaited = 1
            context = self.image.get(context, SENDER)
        return True
