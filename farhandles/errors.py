"""The errors of the program: each is a ValueError, and keeps its argument."""


class HandleError(ValueError):
    """What every error of the program is."""


class BadKinds(HandleError):
    """No list of one or more unlike names."""

    def __init__(self, value):
        self.value = value


class BadHandles(HandleError):
    """No list of unlike kinds of the book."""

    def __init__(self, value):
        self.value = value


class BadRules(HandleError):
    """No list of rules."""

    def __init__(self, value):
        self.value = value


class BadRule(HandleError):
    """The thing with this number, from 0, is no rule."""

    def __init__(self, number):
        self.number = number


class NamedTwice(HandleError):
    """The name is taken already."""

    def __init__(self, name):
        self.name = name


class BadStart(HandleError):
    """No kind that a book can start with."""

    def __init__(self, value):
        self.value = value


class BadCount(HandleError):
    """No integer."""

    def __init__(self, value):
        self.value = value


class NoRule(HandleError):
    """No name of a rule of the book."""

    def __init__(self, value):
        self.value = value


class NoKind(HandleError):
    """No kind of the book."""

    def __init__(self, value):
        self.value = value


class NotDone(HandleError):
    """The thing with this number, from 0, can't be done."""

    def __init__(self, number):
        self.number = number


class BadPrices(HandleError):
    """No dict from just the names of the rules to integers."""

    def __init__(self, value):
        self.value = value


class NoEnd(HandleError):
    """The kind doesn't come to nothing."""

    def __init__(self, name):
        self.name = name


class BadUntold(HandleError):
    """No list of unlike names of rules."""

    def __init__(self, value):
        self.value = value


class BadWeights(HandleError):
    """No dict from just all kinds to integers from 0 on."""

    def __init__(self, value):
        self.value = value


class BadLetters(HandleError):
    """No dict of the kinds that may be doubled and lost."""

    def __init__(self, value):
        self.value = value


class BadTimes(HandleError):
    """No integer from 0 on."""

    def __init__(self, value):
        self.value = value


class BadName(HandleError):
    """No name."""

    def __init__(self, value):
        self.value = value


class NoThing(HandleError):
    """No thing of the world."""

    def __init__(self, value):
        self.value = value


class NoHolder(HandleError):
    """No holder of the world."""

    def __init__(self, value):
        self.value = value


class NotHeld(HandleError):
    """The holder has none of this kind."""

    def __init__(self, name):
        self.name = name


class Nothing(HandleError):
    """There is no event to take back."""

    # The __init__ of ValueError would take any arguments.
    def __init__(self):
        pass


class BadLine(HandleError):
    """With this line, from 1, the lines begin no text."""

    def __init__(self, line):
        self.line = line
