"""All errors that the program raises on purpose."""


class SaggarError(ValueError):
    """The base class of all errors of the program."""


class BadWord(SaggarError):
    """An integer that is out of range, or not of the kind asked for."""

    def __init__(self, word):
        self.word = word


class NoRoom(SaggarError):
    """A new object would not fit into the room of the store."""

    def __init__(self, need):
        self.need = need


class NoNumber(SaggarError):
    """Every number belongs to an object already."""

    def __init__(self, limit):
        self.limit = limit


class NoSymbol(SaggarError):
    """A new text is too long for a symbol, or the table is full."""

    def __init__(self, limit):
        self.limit = limit


class Malformed(SaggarError):
    """A source or a listing does not follow its rules at a place."""

    def __init__(self, at):
        self.at = at


class Oversized(SaggarError):
    """Something is larger than a limit, which is named, allows."""

    def __init__(self, limit):
        self.limit = limit


class Unknown(SaggarError):
    """A name that is found nowhere."""

    def __init__(self, name, at):
        self.name = name
        self.at = at


class Twice(SaggarError):
    """A name that is declared a second time."""

    def __init__(self, name, at):
        self.name = name
        self.at = at


class Fixed(SaggarError):
    """A parameter that would be set."""

    def __init__(self, name, at):
        self.name = name
        self.at = at


class BadClass(SaggarError):
    """A class or a global that cannot be defined or changed so."""

    def __init__(self, why):
        self.why = why


class BadMethod(SaggarError):
    """A method that cannot be installed."""

    def __init__(self, owner, selector, error):
        self.owner = owner
        self.selector = selector
        self.error = error


class BadCode(SaggarError):
    """Code in which checking has found a fault."""

    def __init__(self, why, at):
        self.why = why
        self.at = at


class BadImage(SaggarError):
    """Numbers that are no image in order."""

    def __init__(self, why):
        self.why = why


class Wrong(SaggarError):
    """A call that does not fit the state of a space."""

    def __init__(self, why):
        self.why = why


class Trouble(SaggarError):
    """An error of a process; used inside runs only."""

    def __init__(self, what):
        self.what = what
