"""The errors that the package raises."""


class StackError(ValueError):
    """The base class of all errors of the package."""


class InvalidRule(StackError):
    """A rule cannot have a module or a control."""

    def __init__(self, part):
        StackError.__init__(self, f"a rule cannot have this {part}")
        self.part = part


class InvalidStack(StackError):
    """A stack cannot have an entry."""

    def __init__(self, index):
        StackError.__init__(self, f"a stack cannot have the entry {index}")
        self.index = index


class UnknownRule(StackError):
    """A number is not the one of a rule, or is repeated."""

    def __init__(self, index):
        StackError.__init__(self, f"the number at index {index} is unknown or repeated")
        self.index = index


class InvalidPlace(StackError):
    """A stack has no such entries."""


class InvalidAnswers(StackError):
    """Answers lack a module, have one too many, or one without a result."""

    def __init__(self, name):
        StackError.__init__(self, f"the answer of {name} is missing, superfluous or no result")
        self.name = name


class TooMany(StackError):
    """There is more of something than can be worked on."""


class UnknownModule(StackError):
    """A stack has no such module."""


class InvalidMode(StackError):
    """A watcher has no such mode."""


class UnknownView(StackError):
    """No answers have such a view."""


class InvalidWeights(StackError):
    """Weights lack a module, have one too many, or one without four weights."""

    def __init__(self, name):
        StackError.__init__(self, f"the weights of {name} are missing, superfluous or invalid")
        self.name = name


class InvalidService(StackError):
    """The stacks of a service have too many modules."""

    def __init__(self, part):
        StackError.__init__(self, f"with the stack {part} a service has too many modules")
        self.part = part


class InvalidNeeds(StackError):
    """Needs have a module too many, or one without a tuple of modules that it can need."""

    def __init__(self, name):
        StackError.__init__(self, f"the needs of {name} are superfluous or invalid")
        self.name = name


class InvalidCosts(StackError):
    """Costs lack a module, have one too many, or one without a cost."""

    def __init__(self, name):
        StackError.__init__(self, f"the cost of {name} is missing, superfluous or invalid")
        self.name = name


class InvalidLock(StackError):
    """A number of a lock is out of range."""

    def __init__(self, part):
        StackError.__init__(self, f"a lock cannot have this number: {part}")
        self.part = part


class InvalidEvent(StackError):
    """An event has a wrong time, client or answers."""

    def __init__(self, index):
        StackError.__init__(self, f"the event {index} has a wrong time, client or answers")
        self.index = index


class InvalidNumber(StackError):
    """A number is out of range."""
