"""Suspects: stacks one of which is run, but it is not known which one (point 23)."""

from loginstacks.answers import answers_with
from loginstacks.errors import Contradiction, InvalidSuspects
from loginstacks.parting import best_test, fewest_parting, grouped
from loginstacks.runs import check_answers, check_outcome, leads

MOST_STACKS = 6
MOST_TOGETHER = 5


class Suspects:
    """Stacks one of which is run, and what was observed of it."""

    def __init__(self, stacks):
        self._names = modules_together(stacks)
        self._stacks = tuple(stacks)
        self._left = list(range(len(stacks)))
        self._seen = []

    @property
    def remaining(self):
        """The ascending list of the indexes of the stacks that can still be it."""
        return list(self._left)

    @property
    def history(self):
        """The list of all tuples (answers, word) that were observed."""
        return [(dict(answers), word) for answers, word in self._seen]

    def see(self, answers, word):
        """Observes where answers lead, and returns how many stacks can still be it."""
        check_answers(self._names, answers)
        check_outcome(word)
        left = [index for index in self._left if leads(self._stacks[index], answers) == word]
        if len(left) == 0:
            raise Contradiction("in no stack that remains these answers lead to this word")
        self._left = left
        self._seen.append((dict(answers), word))
        return len(left)

    def groups(self):
        """The list of the ascending lists of the indexes of stacks that are alike, in the order of their first ones."""
        return [[self._left[place] for place in places] for places in grouped(self.word_rows())]

    def best_answers(self):
        """The first answers whose word leaves the fewest remaining stacks in the worst case."""
        return self.tests()[best_test(self.word_rows())]

    def fewest_tests(self):
        """How many answers have to be tried in the worst case until all remaining stacks are alike."""
        return fewest_parting(self.word_rows())

    def tests(self):
        """The list of all answers of all the modules, in order."""
        return answers_with(self._names, {})

    def word_rows(self):
        """The list of the words to which all answers lead in each remaining stack, as tuples."""
        tests = self.tests()
        return [tuple([leads(self._stacks[index], answers) for answers in tests]) for index in self._left]


def modules_together(stacks):
    """The ascending list of the names of all modules of some stacks; raises InvalidSuspects."""
    if len(stacks) == 0:
        raise InvalidSuspects(0)
    names = []
    for index, stack in enumerate(stacks):
        names = sorted(set(names) | set(stack.modules))
        if index >= MOST_STACKS or len(names) > MOST_TOGETHER:
            raise InvalidSuspects(index)
    return names
