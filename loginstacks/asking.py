"""How few modules have to be asked (point 13)."""

from loginstacks.answers import with_result, words_of
from loginstacks.rules import RESULTS


class Questions:
    """What is still to be asked once some modules have told their results; None stands for one not asked yet."""

    def __init__(self, stack):
        self.start = (None,) * len(stack.modules)
        # Where all answers with some results lead; it begins with the complete results and grows.
        self.words = words_of(stack)
        self.numbers = {}

    def settled_word(self, told):
        """Where all answers with the told results lead, or "open" if they do not lead to the same."""
        if told not in self.words:
            place = told.index(None)
            words = [self.settled_word(with_result(told, place, result)) for result in RESULTS]
            self.words[told] = words[0] if words.count(words[0]) == len(words) else "open"
        return self.words[told]

    def fewest(self, told):
        """How many modules have to be asked yet, if they are chosen as well as can be."""
        if told not in self.numbers:
            number = 0
            if self.settled_word(told) == "open":
                number = min([self.fewest_from(told, place) for place in range(len(told)) if told[place] is None])
            self.numbers[told] = number
        return self.numbers[told]

    def fewest_from(self, told, place):
        """How many modules have to be asked yet, if the one at this place is asked first."""
        return 1 + max([self.fewest(with_result(told, place, result)) for result in RESULTS])


def fewest_questions(stack):
    """How many modules have to be asked in the worst case until it is settled where the answers lead."""
    questions = Questions(stack)
    return questions.fewest(questions.start)


def best_first(stack):
    """The first module by asking which first the fewest questions are enough, or None if there are none."""
    questions = Questions(stack)
    fewest = questions.fewest(questions.start)
    if fewest == 0:
        return None
    numbers = [questions.fewest_from(questions.start, place) for place in range(len(stack.modules))]
    return stack.modules[numbers.index(fewest)]
