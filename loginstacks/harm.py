"""What a module's "yes" can spoil, and what lets in or keeps out (points 11 and 12)."""

from loginstacks.answers import answers_with, with_result, words_of
from loginstacks.errors import UnknownModule
from loginstacks.runs import leads
from loginstacks.subsets import all_subsets


def harms(stack):
    """The ascending list of the modules whose "yes" can spoil a login."""
    words = words_of(stack)
    return [module for place, module in enumerate(stack.modules) if first_spoiled(words, place) is not None]


def harm_shown(stack, module):
    """The first answers that lead in, but out if this module tells "yes" instead, or None."""
    if module not in stack.modules:
        raise UnknownModule("the stack has no such module")
    results = first_spoiled(words_of(stack), stack.modules.index(module))
    if results is None:
        return None
    return dict(zip(stack.modules, results))


def fails_open(stack):
    """The ascending list of the modules that can let in by being gone where their "no" keeps out."""
    words = words_of(stack)
    return [module for place, module in enumerate(stack.modules) if is_let_in_when_gone(words, place)]


def keys(stack):
    """The ascending list of all least keys."""
    return least_of(stack, "out", is_key)


def bars(stack):
    """The ascending list of all least bars."""
    return least_of(stack, "in", is_bar)


def first_spoiled(words, place):
    """The first results that lead in, but out if there is a "yes" at this place, or None."""
    for results, word in words.items():
        if word == "in" and words[with_result(results, place, "yes")] == "out":
            return results
    return None


def is_let_in_when_gone(words, place):
    """Whether some results lead out with a "no" at this place, and in with a "gone" there instead."""
    for results, word in words.items():
        if word == "out" and results[place] == "no" and words[with_result(results, place, "gone")] == "in":
            return True
    return False


def modules_with_yes(answers):
    """The tuple of the modules that tell "yes"."""
    return tuple([module for module in answers if answers[module] == "yes"])


def is_key(chosen, kept_out):
    """Whether none of those who are kept out, told by the modules with "yes", has all chosen modules."""
    return not any([all([module in accepted for module in chosen]) for accepted in kept_out])


def is_bar(chosen, let_in):
    """Whether each of those who are let in, told by the modules with "yes", has one of the chosen modules."""
    return all([any([module in accepted for module in chosen]) for accepted in let_in])


def least_of(stack, word, is_one):
    """The ascending list of the least sets of modules that are a key, or a bar, beside all answers that lead so."""
    led = {modules_with_yes(row): True for row in answers_with(stack.modules, {}) if leads(stack, row) == word}
    found = []
    # Lesser sets come first, so a set is least if it contains none of those found before.
    for chosen in all_subsets(stack.modules):
        if is_one(chosen, led) and not contains_one(chosen, found):
            found.append(chosen)
    return sorted(found)


def contains_one(chosen, others):
    """Whether one of the other sets is contained in the chosen one."""
    return any([all([module in chosen for module in other]) for other in others])
