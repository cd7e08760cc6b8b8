"""The errors that the package raises."""


class StackError(ValueError):
    """The base class of all errors of the package."""


class InvalidRule(StackError):
    """A rule cannot have a module or a control."""

    def __init__(self, part):
        StackError.__init__(self, f"a rule cannot have this {part}")
        self.part = part


class InvalidStack(StackError):
    """A stack cannot have an entry."""

    def __init__(self, index):
        StackError.__init__(self, f"a stack cannot have the entry {index}")
        self.index = index


class UnknownRule(StackError):
    """A number is not the one of a rule, or is repeated."""

    def __init__(self, index):
        StackError.__init__(self, f"the number at index {index} is unknown or repeated")
        self.index = index


class InvalidPlace(StackError):
    """A stack has no such entries."""


class InvalidAnswers(StackError):
    """Answers lack a module, have one too many, or one without a result."""

    def __init__(self, name):
        StackError.__init__(self, f"the answer of {name} is missing, superfluous or no result")
        self.name = name


class TooMany(StackError):
    """There is more of something than can be worked on."""


class UnknownModule(StackError):
    """A stack has no such module."""


class InvalidMode(StackError):
    """A watcher has no such mode."""


class UnknownView(StackError):
    """No answers have such a view."""


class InvalidWeights(StackError):
    """Weights lack a module, have one too many, or one without four weights."""

    def __init__(self, name):
        StackError.__init__(self, f"the weights of {name} are missing, superfluous or invalid")
        self.name = name
