"""The errors that the package raises."""


class StackError(ValueError):
    """The base class of all errors of the package."""


class InvalidRule(StackError):
    """A rule cannot have a module or a control."""

    def __init__(self, part):
        StackError.__init__(self, f"a rule cannot have this {part}")
        self.part = part


class InvalidStack(StackError):
    """A stack cannot have an entry."""

    def __init__(self, index):
        StackError.__init__(self, f"a stack cannot have the entry {index}")
        self.index = index


class UnknownRule(StackError):
    """A number is not the one of a rule, or is repeated."""

    def __init__(self, index):
        StackError.__init__(self, f"the number at index {index} is unknown or repeated")
        self.index = index


class InvalidPlace(StackError):
    """A stack has no such entries."""


class InvalidAnswers(StackError):
    """Answers lack a module, have one too many, or one without a result."""

    def __init__(self, name):
        StackError.__init__(self, f"the answer of {name} is missing, superfluous or no result")
        self.name = name


class TooMany(StackError):
    """There is more of something than can be worked on."""


class UnknownModule(StackError):
    """A stack has no such module."""


class InvalidMode(StackError):
    """A watcher has no such mode."""


class UnknownView(StackError):
    """No answers have such a view."""


class InvalidWeights(StackError):
    """Weights lack a module, have one too many, or one without four weights."""

    def __init__(self, name):
        StackError.__init__(self, f"the weights of {name} are missing, superfluous or invalid")
        self.name = name


class InvalidService(StackError):
    """The stacks of a service have too many modules."""

    def __init__(self, part):
        StackError.__init__(self, f"with the stack {part} a service has too many modules")
        self.part = part


class InvalidNeeds(StackError):
    """Needs have a module too many, or one without a tuple of modules that it can need."""

    def __init__(self, name):
        StackError.__init__(self, f"the needs of {name} are superfluous or invalid")
        self.name = name


class InvalidCosts(StackError):
    """Costs lack a module, have one too many, or one without a cost."""

    def __init__(self, name):
        StackError.__init__(self, f"the cost of {name} is missing, superfluous or invalid")
        self.name = name


class InvalidLock(StackError):
    """A number of a lock is out of range."""

    def __init__(self, part):
        StackError.__init__(self, f"a lock cannot have this number: {part}")
        self.part = part


class InvalidEvent(StackError):
    """An event has a wrong time, client or answers."""

    def __init__(self, index):
        StackError.__init__(self, f"the event {index} has a wrong time, client or answers")
        self.index = index


class InvalidNumber(StackError):
    """A number is out of range."""


class InvalidOwn(StackError):
    """A prober cannot have these own modules."""


class InvalidWord(StackError):
    """A word is neither "in" nor "out"."""


class Contradiction(StackError):
    """What is observed cannot be, beside what was observed before."""


class InvalidSuspects(StackError):
    """There are no stacks, too many, or too many modules in them."""

    def __init__(self, index):
        StackError.__init__(self, f"a stack is missing at index {index}, or is one too many")
        self.index = index


class PromiseBroken(StackError):
    """A promise does not hold."""

    def __init__(self, index):
        StackError.__init__(self, f"the promise {index} does not hold")
        self.index = index


class InvalidName(StackError):
    """Nothing can be stored under a name that is no word."""


class UnknownName(StackError):
    """Nothing is stored under a name."""


class InvalidOperation(StackError):
    """There is no such operation, or it takes another number of arguments."""

    def __init__(self, index):
        StackError.__init__(self, f"there is no operation like the one at index {index}")
        self.index = index


class InvalidText(StackError):
    """A word of a text is wrong, superfluous or missing."""

    def __init__(self, row, word):
        StackError.__init__(self, f"in the row {row} the word {word} is wrong, superfluous or missing")
        self.row = row
        self.word = word


class DecodeError(StackError):
    """An item of a code cannot stand where it does, or is missing."""

    def __init__(self, offset):
        StackError.__init__(self, f"the item at offset {offset} cannot stand there or is missing")
        self.offset = offset


class ScriptError(StackError):
    """A row cannot stand in a script where it does, or is missing."""

    def __init__(self, row):
        StackError.__init__(self, f"the row {row} cannot stand there or is missing")
        self.row = row


class ExecutionFailed(StackError):
    """A row of a script cannot be executed."""

    def __init__(self, row):
        StackError.__init__(self, f"the row {row} cannot be executed")
        self.row = row


class TooLong(StackError):
    """A script takes too many steps."""
