"""Stacks of rules and of other stacks (point 3)."""

from loginstacks.checks import is_number
from loginstacks.errors import InvalidPlace, InvalidStack, UnknownRule
from loginstacks.rules import Rule

MOST_ENTRIES = 12
MOST_RULES = 12
MOST_MODULES = 6
MOST_DEPTH = 3


class Stack:
    """A stack of entries, each of them a rule or an inner stack."""

    def __init__(self, *entries):
        misfit = first_misfit(entries)
        if misfit is not None:
            raise InvalidStack(misfit)
        self._entries = entries
        self._rules = tuple([rule for entry in entries for rule in rules_of(entry)])
        self._modules = tuple(sorted({rule.module for rule in self._rules}))

    @property
    def entries(self):
        """The tuple of the entries."""
        return self._entries

    @property
    def rules(self):
        """The tuple of all rules, those of inner stacks among them, as they are written."""
        return self._rules

    @property
    def modules(self):
        """The ascending tuple of the names of all modules."""
        return self._modules

    def __len__(self):
        return len(self._entries)

    def __getitem__(self, at):
        return self._entries[at]

    # Without this, Python would iterate by __getitem__.
    def __iter__(self):
        raise TypeError("a stack cannot be iterated over")

    def __add__(self, other):
        if not isinstance(other, Stack):
            return NotImplemented
        entries = self._entries + other._entries
        return Stack(*entries)

    def __eq__(self, other):
        return isinstance(other, Stack) and self._entries == other._entries

    def without(self, numbers):
        """The stack without the rules with these numbers and without the inner stacks that they leave empty."""
        check_numbers(numbers, len(self._rules))
        entries = entries_left(self, numbers, 0)
        return Stack(*entries)

    def spliced(self, index, count, entries):
        """The stack with other entries in the place of so many from the index on."""
        many = len(self._entries)
        if not is_number(index, 0, many) or not is_number(count, 0, many - index):
            raise InvalidPlace("the stack has no such entries")
        after = self._entries[:index] + entries + self._entries[index + count:]
        return Stack(*after)


def rules_of(entry):
    """The tuple of the rules of an entry, which is a rule or a stack."""
    if isinstance(entry, Stack):
        return entry.rules
    return (entry,)


def depth_of(entry):
    """How many stacks deep an entry is, 0 for a rule."""
    if isinstance(entry, Stack):
        return 1 + max([0] + [depth_of(inner) for inner in entry.entries])
    return 0


def first_misfit(entries):
    """The index of the first entry by which these cannot be the entries of a stack, or None."""
    rules = []
    for index, entry in enumerate(entries):
        if index >= MOST_ENTRIES or not isinstance(entry, (Rule, Stack)) or depth_of(entry) >= MOST_DEPTH:
            return index
        rules.extend(rules_of(entry))
        if len(rules) > MOST_RULES or len({rule.module for rule in rules}) > MOST_MODULES:
            return index
    return None


def check_numbers(numbers, many):
    """Raises UnknownRule unless these are numbers of different ones of so many rules."""
    for index, number in enumerate(numbers):
        if not is_number(number, 0, many - 1) or number in numbers[:index]:
            raise UnknownRule(index)


def entries_left(stack, numbers, first):
    """The list of what is left of a stack's entries without some rules; its own are numbered from the first on."""
    left = []
    number = first
    for entry in stack.entries:
        if isinstance(entry, Stack):
            inner = entries_left(entry, numbers, number)
            # An inner stack that had no entries before stays.
            if len(inner) > 0 or len(entry) == 0:
                left.append(Stack(*inner))
        elif number not in numbers:
            left.append(entry)
        number += len(rules_of(entry))
    return left


def exchanged(stack, index):
    """The stack in which an entry is exchanged with the next one; raises InvalidPlace if there are no such two."""
    return stack.spliced(index, 2, stack.entries[index:index + 2][::-1])


def with_rule(stack, number, rule):
    """The stack in which a rule stands in the place of the one with this number."""
    entries = []
    first = 0
    for entry in stack.entries:
        behind = first + len(rules_of(entry))
        if not first <= number < behind:
            entries.append(entry)
        elif isinstance(entry, Stack):
            entries.append(with_rule(entry, number - first, rule))
        else:
            entries.append(rule)
        first = behind
    return Stack(*entries)
