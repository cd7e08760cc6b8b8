"""Point 13: how few modules have to be asked."""

import random
import unittest

from loginstacks.asking import best_first, fewest_questions
from loginstacks.rules import Rule
from loginstacks.stacks import Stack
from tests import plain
from tests.support import Case, IGNORE, MODULES, idle_stack, sure


def plain_number(stack, rows):
    """How many questions part these answers, each with its word, and the modules that can be asked first."""
    if len({word for _, word in rows}) < 2:
        return 0, []
    numbers = {}
    for module in stack.modules:
        parts = [[(row, word) for row, word in rows if row[module] == result] for result in plain.RESULTS]
        # A module that was asked before parts nothing.
        if [] not in parts:
            numbers[module] = 1 + max(plain_number(stack, part)[0] for part in parts)
    least = min(numbers.values())
    return least, [module for module in numbers if numbers[module] == least]


def plainly(stack):
    return plain_number(stack, [(row, plain.word(stack, row)) for row in plain.all_answers(stack.modules)])


def plain_told(stack):
    least, first = plainly(stack)
    return (least, first[0] if first else None)


def told(stack):
    return (fewest_questions(stack), best_first(stack))


class AskingTest(Case):
    def test_example(self):
        stack = Stack(Rule("pin", "required"), Rule("key", "required"), Rule("pin", "requisite"))
        never = Stack(Rule("pin", ("bad", "bad", "bad", "bad")))
        self.same([fewest_questions(stack), best_first(stack), fewest_questions(never), best_first(Stack())],
                  [2, "key", 0, None])

    def test_nothing_has_to_be_asked(self):
        for stack in (Stack(), Stack(Stack()), idle_stack("abcdef"), Stack(sure("a", "ok"), Rule("b", IGNORE)),
                      Stack(sure("a", "die"), Rule("b", "required")), Stack(sure("a", 1), Rule("b", "required"))):
            self.same(told(stack), (0, None))

    def test_one_module(self):
        self.same(told(Stack(Rule("b", "required"), Rule("a", IGNORE))), (1, "b"))

    def test_all_modules(self):
        self.same(told(Stack(*[Rule(name, "required") for name in "fedcba"])), (6, "a"))
        self.same(told(Stack(*[Rule(name, "sufficient") for name in "dcb"])), (3, "b"))

    def test_the_next_module_depends_on_the_results_before(self):
        # "z" tells which of the two others decides.
        stack = Stack(Rule("z", ("ignore", 1, 1, 1)), Rule("b", "optional"),
                      Rule("z", (1, "ignore", "ignore", "ignore")), Rule("a", "optional"))
        self.same(told(stack), (2, "z"))
        # Each result of "m" has a module of its own.
        parts = [Stack(Rule("m", tuple("ignore" if at == own else 1 for at in range(4))), Rule(name, "optional"))
                 for own, name in enumerate("abcd")]
        self.same(told(Stack(*parts)), (2, "m"))

    def test_several_best_first_modules(self):
        stack = Stack(Rule("d", "requisite"), Rule("b", "requisite"), Rule("c", "requisite"), Rule("a", IGNORE))
        self.same(told(stack), (3, "b"))

    def test_beside_a_plain_search(self):
        rng = random.Random(13)
        for make in (plain.random_stack, plain.random_word_stack):
            for _ in range(80):
                stack = make(rng, MODULES[:4])
                self.same(told(stack), plain_told(stack))


if __name__ == "__main__":
    unittest.main()
