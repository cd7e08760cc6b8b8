"""What some results settle, and what it takes to change an outcome (points 7 and 8)."""

from loginstacks.answers import answers_with
from loginstacks.rules import RESULTS
from loginstacks.runs import check_answers, check_known, leads
from loginstacks.subsets import all_subsets


def settled(stack, known):
    """Where all answers with the known results lead, or "open" if they do not lead to the same."""
    check_known(stack.modules, known)
    return settled_word(stack, known)


def open_modules(stack, known):
    """The ascending list of the other modules that can still decide."""
    check_known(stack.modules, known)
    return [module for module in stack.modules if module not in known and can_decide(stack, known, module)]


def least_reason(stack, answers):
    """The shortest ascending tuple of modules whose results alone settle where the answers lead."""
    check_answers(stack.modules, answers)
    for chosen in all_subsets(stack.modules)[:-1]:
        if settled_word(stack, {module: answers[module] for module in chosen}) != "open":
            return chosen
    return stack.modules


def least_change(stack, answers):
    """The shortest list of changes (module, another result) by which the answers lead elsewhere, or None."""
    check_answers(stack.modules, answers)
    word = leads(stack, answers)
    # Fewer changes are tried before more, so none of those that are found tells the result that there was.
    for chosen in all_subsets(stack.modules):
        for changed in answers_with(chosen, {}):
            if leads(stack, {**answers, **changed}) != word:
                return list(changed.items())
    return None


def settled_word(stack, known):
    """What settled returns for known results that need no check."""
    first = None
    for answers in answers_with(stack.modules, known):
        word = leads(stack, answers)
        if first is None:
            first = word
        elif word != first:
            return "open"
    return first


def can_decide(stack, known, module):
    """Whether two answers with the known results that differ in this module alone lead elsewhere."""
    others = [name for name in stack.modules if name != module]
    for row in answers_with(others, known):
        words = [leads(stack, {**row, module: result}) for result in RESULTS]
        if "in" in words and "out" in words:
            return True
    return False
