"""Two stacks beside one another (point 9)."""

from loginstacks.answers import answers_with
from loginstacks.errors import TooMany
from loginstacks.runs import leads
from loginstacks.stacks import MOST_MODULES


def answers_of_both(one, other):
    """The list of all answers of the modules of two stacks, in order."""
    modules = sorted(set(one.modules) | set(other.modules))
    if len(modules) > MOST_MODULES:
        raise TooMany("the stacks have too many modules together")
    return answers_with(modules, {})


def difference_count(one, other):
    """How many answers do not lead to the same in both stacks."""
    return len([answers for answers in answers_of_both(one, other) if leads(one, answers) != leads(other, answers)])


def alike(one, other):
    """Whether all answers lead to the same in both stacks."""
    return first_difference(one, other) is None


def first_difference(one, other):
    """The first answers that do not lead to the same, and where they lead in the first stack, or None."""
    for answers in answers_of_both(one, other):
        word = leads(one, answers)
        if word != leads(other, answers):
            return (answers, word)
    return None


def is_stricter(one, other):
    """Whether all answers that lead in in the first stack do so in the second one."""
    for answers in answers_of_both(one, other):
        if leads(one, answers) == "in" and leads(other, answers) == "out":
            return False
    return True
