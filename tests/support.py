"""What the tests share."""

import unittest

from loginstacks.rules import Rule
from loginstacks.stacks import Stack

IGNORE = ("ignore", "ignore", "ignore", "ignore")
MODULES = ("a", "b", "c", "d", "e", "f", "g")


class Case(unittest.TestCase):
    def fails(self, error, call, *arguments, **attributes):
        """Checks that a call raises this very error with these attributes."""
        with self.assertRaises(error) as caught:
            call(*arguments)
        self.assertIs(type(caught.exception), error)
        for name, value in attributes.items():
            self.assertEqual(getattr(caught.exception, name), value)
            self.assertIs(type(getattr(caught.exception, name)), type(value))

    def same(self, found, wanted):
        """Checks that two values are equal, of the same kind, and dicts in the same order."""
        self.assertEqual(repr(found), repr(wanted))


def sure(module, action):
    """A rule by which the same follows whatever its module tells."""
    return Rule(module, (action,) * 4)


def idle(count, module="a"):
    """A list of so many rules that do nothing."""
    return [Rule(module, IGNORE) for _ in range(count)]


def idle_stack(names):
    """A stack with a rule that does nothing for each letter of some names."""
    return Stack(*[Rule(name, IGNORE) for name in names])
