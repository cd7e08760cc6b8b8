"""Removing rules one by one, with as little risk as can be (point 24)."""

from loginstacks.answers import answers_with
from loginstacks.errors import TooMany
from loginstacks.runs import leads
from loginstacks.stacks import check_numbers
from loginstacks.subsets import all_orders, all_subsets

MOST_REMOVED = 6


def least_risk(stack, numbers):
    """The least risk with which the rules with these numbers can be removed, and the first order that has it."""
    check_numbers(numbers, len(stack.rules))
    if len(numbers) > MOST_REMOVED:
        raise TooMany("there are too many rules to remove")
    ascending = sorted(numbers)
    counts = wrong_counts(stack, ascending)
    best = None
    for order in all_orders(ascending):
        risk = max([counts[tuple(sorted(order[:many]))] for many in range(len(order) + 1)])
        if best is None or risk < best[0]:
            best = (risk, order)
    return best


def wrong_counts(stack, numbers):
    """A dict from the ascending tuples of some of the numbers to how many answers are wrong without these rules."""
    last = stack.without(tuple(numbers))
    # Only answers that lead to the same in the first and in the last stack can be wrong.
    led = [(answers, leads(stack, answers)) for answers in answers_with(stack.modules, {})]
    steady = [(answers, word) for answers, word in led if leads(last, answers) == word]
    return {removed: wrong_count(stack.without(removed), steady) for removed in all_subsets(numbers)}


def wrong_count(stack, steady):
    """How many of some pairs (answers, word) have answers that do not lead to the word in this stack."""
    return len([word for answers, word in steady if leads(stack, answers) != word])
