"""Covers: which results of the first modules have to be known (point 27)."""

from loginstacks.answers import with_result
from loginstacks.asking import Questions
from loginstacks.errors import TooMany
from loginstacks.rules import RESULTS
from loginstacks.subsets import all_orders

MOST_ORDERED = 4


def cover(stack):
    """The list of the shortest tuples of results that settle where the stack leads, each with the word."""
    questions = Questions(stack)
    rows = settling_rows(questions, places_of(stack))
    return [(results_told(told), questions.settled_word(told)) for told in rows]


def cover_text(stack):
    """A text with a line for each tuple of the cover."""
    return "\n".join([f"{results_text(results)}: {word}" for results, word in cover(stack)])


def shortest_cover(stack):
    """The least number of tuples of a cover, if the modules are taken in some order, and the first such order."""
    if len(stack.modules) > MOST_ORDERED:
        raise TooMany("there are too many modules to be taken in all orders")
    questions = Questions(stack)
    best = None
    for order in all_orders(places_of(stack)):
        number = len(settling_rows(questions, order))
        if best is None or number < best[0]:
            best = (number, tuple([stack.modules[place] for place in order]))
    return best


def places_of(stack):
    """The list of the places of all modules."""
    return list(range(len(stack.modules)))


def settling_rows(questions, places):
    """The list of what has to be told, if modules are asked in the order of their places, until all is settled."""
    rows = [questions.start]
    for place in places:
        rows = [row for told in rows for row in rows_behind(questions, told, place)]
    return rows


def rows_behind(questions, told, place):
    """The list of what can be told once the module at a place was asked, if it still has to be."""
    if questions.settled_word(told) != "open":
        return [told]
    return [with_result(told, place, result) for result in RESULTS]


def results_told(told):
    """The tuple of the results of the modules that were asked."""
    return tuple([result for result in told if result is not None])


def results_text(results):
    """The results of a tuple as a text."""
    return " ".join(results) if len(results) > 0 else "-"
