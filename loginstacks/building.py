"""Building stacks of parts that are told one behind another (points 28 and 29)."""

from loginstacks.rules import Rule
from loginstacks.stacks import Stack

BEGIN = "begin"
END = "end"


def built(parts):
    """The stack of some parts, each one a rule, or the begin or the end of an inner stack."""
    levels = [[]]
    for part in parts:
        if isinstance(part, Rule):
            levels[-1].append(part)
        elif part == BEGIN:
            levels.append([])
        else:
            entries = levels.pop()
            levels[-1].append(Stack(*entries))
    entries = levels[0]
    return Stack(*entries)


def parts_of(stack):
    """The list of the parts of which a stack can be built again."""
    parts = []
    for entry in stack.entries:
        if isinstance(entry, Stack):
            parts.extend([BEGIN] + parts_of(entry) + [END])
        else:
            parts.append(entry)
    return parts
