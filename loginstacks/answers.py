"""All answers of a stack, in order, and where they lead (point 6)."""

from loginstacks.rules import RESULTS
from loginstacks.runs import leads


def answers_with(modules, known):
    """The list of all answers of ascending modules that have the known results, in order."""
    rows = [{}]
    for module in modules:
        results = (known[module],) if module in known else RESULTS
        rows = [{**row, module: result} for row in rows for result in results]
    return rows


def words_of(stack):
    """A dict from the results of all modules of a stack, as tuples, in order, to where they lead."""
    return {tuple(answers.values()): leads(stack, answers) for answers in answers_with(stack.modules, {})}


def with_result(results, place, result):
    """A tuple of results in which this one stands at a place."""
    return results[:place] + (result,) + results[place + 1:]


def first_leading(stack, word):
    """The first answers that lead to a word, or None."""
    for answers in answers_with(stack.modules, {}):
        if leads(stack, answers) == word:
            return answers
    return None


def answer_count(stack):
    """How many answers there are."""
    count = 1
    for _ in stack.modules:
        count *= len(RESULTS)
    return count


def in_count(stack):
    """How many answers lead in."""
    return len(list(answers_in(stack)))


def answers_in(stack):
    """Yields all answers that lead in, in order."""
    for answers in answers_with(stack.modules, {}):
        if leads(stack, answers) == "in":
            yield answers


def first_in(stack):
    """The first answers that lead in, or None."""
    return first_leading(stack, "in")


def first_out(stack):
    """The first answers that lead out, or None."""
    return first_leading(stack, "out")
