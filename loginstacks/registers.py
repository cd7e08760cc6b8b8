"""Registers: stacks that change, and keep promises (points 25 and 26)."""

from loginstacks.errors import InvalidOperation
from loginstacks.pages import Page, after_go, after_promise, after_put, after_store, after_swap, after_take, after_turn

# How many arguments each operation takes.
ARGUMENTS = {
    "put": 2, "take": 1, "swap": 1, "turn": 2, "promise": 2, "store": 1, "go": 1, "undo": 0, "redo": 0,
}


class Book:
    """The page of now, and the operations around it; a book is never changed, so one can go back to it."""

    def __init__(self, done, page, undone):
        # The operations in effect, each with the page ahead of it.
        self.done = done
        self.page = page
        # The operations that can be redone, each with the page behind it, the one undone last at the end.
        self.undone = undone


class Register:
    """A stack that changes by operations, which can be undone and redone."""

    def __init__(self, stack):
        self._book = Book((), Page(stack, (), {}), ())

    @property
    def stored(self):
        """The ascending list of all names under which something is stored."""
        return sorted(self._book.page.saved)

    @property
    def promises(self):
        """The list of all promises (known, word)."""
        return [(dict(known), word) for known, word in self._book.page.vows]

    @property
    def history(self):
        """The list of all operations in effect, tuples of the name of the method and its arguments."""
        return [copied(operation) for operation, _ in self._book.done]

    def stack(self):
        """The stack as it is now."""
        return self._book.page.present

    def put(self, index, entry):
        """Puts an entry in; returns how many answers lead elsewhere."""
        page, count = after_put(self._book.page, index, entry)
        return self.turn_page(("put", index, entry), page, count)

    def take(self, index):
        """Takes out an entry; returns how many answers lead elsewhere."""
        page, count = after_take(self._book.page, index)
        return self.turn_page(("take", index), page, count)

    def swap(self, index):
        """Exchanges an entry with the next one; returns how many answers lead elsewhere."""
        page, count = after_swap(self._book.page, index)
        return self.turn_page(("swap", index), page, count)

    def turn(self, number, control):
        """Gives the rule with a number another control; returns how many answers lead elsewhere."""
        page, count = after_turn(self._book.page, number, control)
        return self.turn_page(("turn", number, control), page, count)

    def promise(self, known, word):
        """Promises where the known results settle that the stack leads; returns the number of promises."""
        kept = dict(known)
        page, count = after_promise(self._book.page, kept, word)
        return self.turn_page(("promise", kept, word), page, count)

    def store(self, name):
        """Stores the stack and the promises under a name; returns whether there was something under it."""
        page, was_there = after_store(self._book.page, name)
        return self.turn_page(("store", name), page, was_there)

    def go(self, name):
        """Returns to what was stored under a name last; returns the number of the rules of this stack."""
        page, count = after_go(self._book.page, name)
        return self.turn_page(("go", name), page, count)

    def undo(self):
        """Undoes the last operation in effect; returns whether there was one."""
        book = self._book
        if len(book.done) == 0:
            return False
        operation, before = book.done[-1]
        self._book = Book(book.done[:-1], before, book.undone + ((operation, book.page),))
        return True

    def redo(self):
        """Executes the operation once more that was undone last; returns whether there was one."""
        book = self._book
        if len(book.undone) == 0:
            return False
        # The operation is executed where it was before, so the page behind it is the same, too.
        operation, behind = book.undone[-1]
        self._book = Book(book.done + ((operation, book.page),), behind, book.undone[:-1])
        return True

    def apply_all(self, operations):
        """Executes some operations, or none of them if one raises an error; returns the list of their results."""
        check_operations(operations)
        with Trial(self) as trial:
            results = [self.execute(operation) for operation in operations]
            trial.hold()
        return results

    def tried(self, operations, keep):
        """Executes some operations and keeps what they change only if wanted; returns the list of their results."""
        with Trial(self) as trial:
            results = self.apply_all(operations)
            if keep:
                trial.hold()
        return results

    @classmethod
    def replay(cls, stack, operations):
        """A register of a stack after some operations."""
        desk = cls(stack)
        desk.apply_all(operations)
        return desk

    def turn_page(self, operation, page, result):
        """Writes down an operation that leads to a page, and returns its result."""
        self._book = Book(self._book.done + ((operation, self._book.page),), page, ())
        return result

    def execute(self, operation):
        """Executes one operation that needs no check, and returns its result."""
        name = operation[0]
        if name == "put":
            return self.put(operation[1], operation[2])
        if name == "take":
            return self.take(operation[1])
        if name == "swap":
            return self.swap(operation[1])
        if name == "turn":
            return self.turn(operation[1], operation[2])
        if name == "promise":
            return self.promise(operation[1], operation[2])
        if name == "store":
            return self.store(operation[1])
        if name == "go":
            return self.go(operation[1])
        if name == "undo":
            return self.undo()
        return self.redo()


class Trial:
    """A block at whose end a desk is as it was at its beginning, unless this is told to hold."""

    def __init__(self, desk):
        self.desk = desk
        # The book to go back to. No flag beside it tells of hold: the end of a block asks attributes for None alone.
        self.book = None

    def __enter__(self):
        self.book = self.desk._book
        return self

    def __exit__(self, kind, value, trace):
        desk = self.desk
        if self.book is not None:
            desk._book = self.book

    def hold(self):
        """Keeps what the block changes."""
        self.book = None


def copied(operation):
    """An operation with copies of its dicts."""
    return tuple([dict(part) if isinstance(part, dict) else part for part in operation])


def is_operation(operation):
    """Whether a value of any kind is an operation with the right number of arguments."""
    if not isinstance(operation, tuple) or len(operation) == 0 or not isinstance(operation[0], str):
        return False
    return operation[0] in ARGUMENTS and len(operation) == 1 + ARGUMENTS[operation[0]]


def check_operations(operations):
    """Raises InvalidOperation unless all of these are operations."""
    for index, operation in enumerate(operations):
        if not is_operation(operation):
            raise InvalidOperation(index)
