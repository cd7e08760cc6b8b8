"""Rules that a stack does not need, and entries that can change places (point 10)."""

from loginstacks.answers import answers_with
from loginstacks.comparing import alike
from loginstacks.runs import leads
from loginstacks.stacks import exchanged
from loginstacks.subsets import all_subsets


def needless(stack):
    """The ascending list of the numbers of all rules that are needless, each one alone."""
    return [number for number in range(len(stack.rules)) if alike(stack, stack.without((number,)))]


def least_kept(stack):
    """The shortest ascending tuple of numbers of rules such that the stack without all others is alike."""
    numbers = list(range(len(stack.rules)))
    led = [(answers, leads(stack, answers)) for answers in answers_with(stack.modules, {})]
    # Answers that part one lesser stack from this one part many others, too, so they are tried first.
    telling = []
    for kept in all_subsets(numbers)[:-1]:
        lesser = stack_of(stack, kept)
        if first_parting(lesser, telling) is None:
            parting = first_parting(lesser, led)
            if parting is None:
                return kept
            telling.append(parting)
    return tuple(numbers)


def least_stack(stack):
    """The stack with none but the rules that least_kept tells."""
    return stack_of(stack, least_kept(stack))


def free_pairs(stack):
    """The ascending list of the indexes of all entries that can be exchanged with the next one."""
    return [index for index in range(len(stack) - 1) if alike(stack, exchanged(stack, index))]


def stack_of(stack, kept):
    """The stack without all rules but those with the kept numbers."""
    others = [number for number in range(len(stack.rules)) if number not in kept]
    return stack.without(tuple(others))


def first_parting(stack, led):
    """The first one of some pairs (answers, word) of which the answers lead elsewhere in this stack, or None."""
    for answers, word in led:
        if leads(stack, answers) != word:
            return (answers, word)
    return None
