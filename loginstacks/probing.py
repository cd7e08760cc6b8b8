"""Probers, which run a stack whose hidden modules tell what is not known (points 21 and 22)."""

from loginstacks.answers import answers_with
from loginstacks.errors import Contradiction, InvalidOwn, TooMany
from loginstacks.parting import best_test, fewest_parting, grouped
from loginstacks.runs import check_answers, check_outcome, leads
from loginstacks.watching import results_in

MOST_OWN = 3
MOST_HIDDEN = 3
MOST_KINDS = 8


class Prober:
    """A stack that is run again and again, with own modules that tell what is chosen, and hidden ones."""

    def __init__(self, stack, own):
        if not can_be_own(stack, own):
            raise InvalidOwn("a prober cannot have these own modules")
        self._stack = stack
        self._own = own
        self._hidden = modules_hidden(stack, own)
        self._left = answers_with(self._hidden, {})
        self._runs = []

    @property
    def candidates(self):
        """The list of the answers of the hidden modules that remain, in order."""
        return [dict(one) for one in self._left]

    @property
    def history(self):
        """The list of all counted runs (choice, word)."""
        return [(dict(choice), word) for choice, word in self._runs]

    @property
    def sure(self):
        """A dict from the hidden modules that tell the same in all candidates to this result."""
        told = {module: results_in(self._left, module) for module in self._hidden}
        return {module: told[module][0] for module in told if len(told[module]) == 1}

    def run(self, choice, word):
        """Observes where a choice leads, and returns how many candidates remain."""
        check_answers(self._own, choice)
        check_outcome(word)
        left = [one for one in self._left if leads(self._stack, {**one, **choice}) == word]
        if len(left) == 0:
            raise Contradiction("with no candidate this choice leads to this word")
        self._left = left
        self._runs.append((dict(choice), word))
        return len(left)

    def kinds(self):
        """The list of the lists of candidates that are alike, in the order of their first ones."""
        return [[dict(self._left[index]) for index in indexes] for indexes in grouped(self.word_rows())]

    def best_choice(self):
        """The first choice whose word leaves the fewest candidates in the worst case."""
        return self.choices()[best_test(self.word_rows())]

    def fewest_runs(self):
        """How many runs have to be made in the worst case until all candidates that remain are alike."""
        rows = self.word_rows()
        if len(grouped(rows)) > MOST_KINDS:
            raise TooMany("there are too many kinds of candidates")
        return fewest_parting(rows)

    def choices(self):
        """The list of all choices, in order."""
        return answers_with(self._own, {})

    def word_rows(self):
        """The list of the words to which all choices lead with each of the candidates, as tuples."""
        choices = self.choices()
        return [tuple([leads(self._stack, {**one, **choice}) for choice in choices]) for one in self._left]


def modules_hidden(stack, own):
    """The ascending tuple of the modules of a stack that are not own ones."""
    return tuple([module for module in stack.modules if module not in own])


def can_be_own(stack, own):
    """Whether a value of any kind is an ascending tuple of modules of a stack, neither too many nor too few."""
    if not isinstance(own, tuple) or own != tuple([module for module in stack.modules if module in own]):
        return False
    return len(own) <= MOST_OWN and len(modules_hidden(stack, own)) <= MOST_HIDDEN
