"""Which share of all logins succeeds, if modules tell their results more or less often (point 15)."""

from math import gcd

from loginstacks.answers import answers_with
from loginstacks.checks import is_number, least_wrong_name
from loginstacks.errors import InvalidWeights, UnknownModule
from loginstacks.rules import RESULTS
from loginstacks.runs import whole_run, word_of

MOST_WEIGHT = 1000
ALWAYS_YES = (1, 0, 0, 0)


def share_in(stack, weights):
    """The share of the answers that lead in."""
    check_weights(stack, weights)
    return share_that_leads_in(stack, weights)


def share_blamed(stack, weights):
    """The list with the share for each rule of the answers for which it is blamed."""
    check_weights(stack, weights)
    runs = weighted_runs(stack, weights)
    total = sum([weight for weight, _ in runs])
    numbers = range(len(stack.rules))
    return [fraction(sum([weight for weight, run in runs if run.spoiler == number]), total) for number in numbers]


def gain(stack, weights, module):
    """By how much the share of the answers that lead in grows if this module always tells "yes"."""
    check_weights(stack, weights)
    if module not in stack.modules:
        raise UnknownModule("the stack has no such module")
    part, whole = share_that_leads_in(stack, weights)
    more, all_then = share_that_leads_in(stack, {**weights, module: ALWAYS_YES})
    return fraction(more * whole - part * all_then, whole * all_then)


def are_weights(value):
    """Whether a value of any kind is a tuple of weights for the four results."""
    if not isinstance(value, tuple) or len(value) != len(RESULTS):
        return False
    return all([is_number(weight, 0, MOST_WEIGHT) for weight in value]) and sum(value) > 0


def check_weights(stack, weights):
    """Raises InvalidWeights unless these are the weights of all modules of a stack."""
    name = least_wrong_name(stack.modules, weights, are_weights)
    if name is not None:
        raise InvalidWeights(name)


def weight_of(answers, weights):
    """The product of the weights of all results."""
    weight = 1
    for module in answers:
        weight *= weights[module][RESULTS.index(answers[module])]
    return weight


def fraction(part, whole):
    """A part of a positive whole in lowest terms."""
    divisor = gcd(part, whole)
    return (part // divisor, whole // divisor)


def weighted_runs(stack, weights):
    """The list of all answers' weights, each with the run of these answers."""
    return [(weight_of(answers, weights), whole_run(stack, answers)) for answers in answers_with(stack.modules, {})]


def share_that_leads_in(stack, weights):
    """What share_in returns for weights that need no check."""
    runs = weighted_runs(stack, weights)
    part = sum([weight for weight, run in runs if word_of(run) == "in"])
    return fraction(part, sum([weight for weight, _ in runs]))
