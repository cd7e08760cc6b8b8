"""Runs of a stack: where they lead, whom they ask and who is to blame (points 4 and 5)."""

from loginstacks.checks import least_wrong_name
from loginstacks.errors import InvalidAnswers, InvalidWord
from loginstacks.rules import RESULTS, is_result
from loginstacks.stacks import Stack, rules_of

OUTCOMES = ("in", "out")


class Teller:
    """Modules that tell their answers."""

    def __init__(self, answers):
        self.answers = answers

    def tell(self, module):
        """What a module tells that is asked now."""
        return self.answers[module]


class Run:
    """A run, as far as it has come; the teller may tell otherwise when a module is asked again."""

    def __init__(self, teller):
        self.teller = teller
        self.mark = "none"
        # The number of the rule that made the mark bad, while it is bad.
        self.spoiler = None
        self.numbers = []

    def go_through(self, stack, first):
        """Goes through a stack, the whole one or an inner one, whose rules are numbered from the first on."""
        began = (self.mark, self.spoiler)
        number = first
        left_out = 0
        for entry in stack.entries:
            if left_out > 0:
                left_out -= 1
            elif isinstance(entry, Stack):
                self.go_through(entry, number)
            else:
                action = self.ask(entry, number)
                self.change_mark(action, number, began)
                if self.is_end(action):
                    return
                if isinstance(action, int):
                    left_out = action
            number += len(rules_of(entry))

    def ask(self, rule, number):
        """Asks the module of a rule and returns the action that follows."""
        self.numbers.append(number)
        return rule.control[RESULTS.index(self.teller.tell(rule.module))]

    def change_mark(self, action, number, began):
        """Does to the mark what an action says; began is the mark, and its spoiler, with which the stack began."""
        if action in ("ok", "done") and self.mark == "none":
            self.mark = "good"
        elif action in ("bad", "die") and self.mark != "bad":
            self.mark = "bad"
            self.spoiler = number
        elif action == "reset":
            self.mark, self.spoiler = began

    def is_end(self, action):
        """Whether the stack of a rule ends behind this action, which has changed the mark already."""
        return action == "die" or (action == "done" and self.mark == "good")


def run_of(stack, teller):
    """The run of a stack to its end, whose modules this teller has; it may have further ones."""
    run = Run(teller)
    run.go_through(stack, 0)
    return run


def whole_run(stack, answers):
    """The run of a stack to its end; the answers may have further modules."""
    return run_of(stack, Teller(answers))


def word_of(run):
    """Where a run leads that is at its end."""
    return "in" if run.mark == "good" else "out"


def leads(stack, answers):
    """Where answers lead that need no check; they may have further modules."""
    return word_of(whole_run(stack, answers))


def check_outcome(word):
    """Raises InvalidWord unless this is a word that tells where answers lead."""
    if word not in OUTCOMES:
        raise InvalidWord("this is neither in nor out")


def check_known(modules, known):
    """Raises InvalidAnswers unless these are results of some of the modules."""
    check_answers([module for module in modules if module in known], known)


def check_answers(modules, answers):
    """Raises InvalidAnswers unless these are results of all the modules."""
    name = least_wrong_name(modules, answers, is_result)
    if name is not None:
        raise InvalidAnswers(name)


def outcome(stack, answers):
    """Where the answers lead, "in" or "out"."""
    check_answers(stack.modules, answers)
    return leads(stack, answers)


def asked(stack, answers):
    """The list of the numbers of the rules that are asked, in order."""
    check_answers(stack.modules, answers)
    return whole_run(stack, answers).numbers


def blamed(stack, answers):
    """The number of the rule that made the mark bad that the run ends with, or None."""
    check_answers(stack.modules, answers)
    return whole_run(stack, answers).spoiler
