"""Point 24: removing rules with the least risk."""

import random
import unittest
from itertools import permutations

from loginstacks.errors import TooMany, UnknownRule
from loginstacks.removing import least_risk
from loginstacks.rules import Rule
from loginstacks.stacks import Stack
from tests import plain
from tests.support import Case, MODULES, idle, sure

PIN, KEY = Rule("pin", "required"), Rule("key", "required")
DOOR, TRAP = sure("door", 1), sure("trap", "die")


def plain_words(stack, rows):
    return [plain.word(stack, row) for row in rows]


def plain_risks(stack, numbers):
    """All orders of the numbers, each with its risk."""
    rows = plain.all_answers(stack.modules)
    every = range(len(stack.rules))
    words = {}
    for order in permutations(sorted(numbers)):
        on_the_way = []
        for many in range(len(order) + 1):
            gone = frozenset(order[:many])
            if gone not in words:
                words[gone] = plain_words(plain.kept(stack, [number for number in every if number not in gone]), rows)
            on_the_way.append(words[gone])
        first, last = on_the_way[0], on_the_way[-1]
        yield max(sum(1 for one, other, here in zip(first, last, way) if one == other != here)
                  for way in on_the_way), order


class ExamplesTest(Case):
    def test_example(self):
        self.same([least_risk(Stack(PIN, PIN, KEY), (1, 0)), least_risk(Stack(DOOR, TRAP, PIN), (0, 1))],
                  [(0, (0, 1)), (16, (0, 1))])


class LeastRiskTest(Case):
    def test_no_numbers(self):
        for stack in (Stack(), Stack(PIN), Stack(DOOR, Stack(TRAP), PIN)):
            self.same(least_risk(stack, ()), (0, ()))

    def test_one_number(self):
        for number in range(3):
            self.same(least_risk(Stack(DOOR, Stack(TRAP), PIN), (number,)), (0, (number,)))

    def test_several_numbers(self):
        # The trap has to go ahead of the door that leads around it.
        safe = Stack(Stack(DOOR, TRAP), PIN, KEY)
        self.same(least_risk(safe, (0, 1)), (0, (1, 0)))
        self.same(least_risk(safe, (1, 0)), (0, (1, 0)))

    def test_first_of_several_orders(self):
        self.same(least_risk(Stack(*idle(6)), (5, 3, 4, 0, 2, 1)), (0, (0, 1, 2, 3, 4, 5)))
        self.same(least_risk(Stack(PIN, KEY, PIN, KEY), (3, 1, 2)), (0, (1, 2, 3)))

    def test_six_numbers(self):
        stack = Stack(*[Rule(name, "required") for name in "abcdeffedcba"])
        self.same(least_risk(stack, (11, 1, 2, 4, 6, 8)), (0, (1, 2, 4, 6, 8, 11)))

    def test_answers_that_lead_elsewhere_in_the_last_stack_are_not_wrong(self):
        # Without any rule nobody is let in, so who was let in at first can be kept out or let in on the way.
        self.same(least_risk(Stack(PIN, PIN), (0, 1)), (0, (0, 1)))
        # Here those with one "yes" alone are let in on the way, but neither at first nor at the end.
        self.same(least_risk(Stack(PIN, KEY), (0, 1)), (2, (0, 1)))
        # "a" lets in at first and at the end, "b" only on the way.
        stack = Stack(sure("a", "bad"), Rule("b", "optional"), Rule("a", (9, 9, 9, 9)))
        wrong = dict((order, risk) for risk, order in plain_risks(stack, (0, 1)))
        self.same((least_risk(stack, (0, 1)), wrong[(0, 1)] > 0), ((0, (1, 0)), True))

    def test_answers_are_those_of_the_first_stack(self):
        # The answers of modules that are removed on the way count, too.
        self.same(least_risk(Stack(DOOR, TRAP, PIN), (0, 1))[0], 4 * 4)
        self.same(least_risk(Stack(DOOR, TRAP, PIN, *idle(1, "x")), (0, 1))[0], 4 * 4 * 4)

    def test_inner_stacks(self):
        stack = Stack(Stack(Rule("a", (1, 1, 1, 1)), Rule("b", "requisite")), Stack(), Rule("c", "required"))
        for numbers in ((0, 1), (1, 2), (0, 1, 2), (2, 0)):
            self.same(least_risk(stack, numbers), min(plain_risks(stack, numbers)))

    def test_beside_a_plain_search(self):
        rng = random.Random(24)
        risky = 0
        for _ in range(120):
            stack = plain.random_stack(rng, MODULES[:3], 7)
            numbers = rng.sample(range(len(stack.rules)), min(len(stack.rules), rng.randint(0, 4)))
            found = least_risk(stack, tuple(numbers))
            self.same(found, min(plain_risks(stack, numbers)))
            self.same(least_risk(stack, tuple(reversed(numbers))), found)
            risky += found[0] > 0
        self.assertGreater(risky, 3)

    def test_six_numbers_beside_a_plain_search(self):
        rng = random.Random(25)
        for _ in range(3):
            stack = Stack(*[Rule(rng.choice("ab"), plain.random_control(rng)) for _ in range(8)])
            numbers = tuple(rng.sample(range(8), 6))
            self.same(least_risk(stack, numbers), min(plain_risks(stack, numbers)))


class ErrorsTest(Case):
    def test_unknown_rules(self):
        stack = Stack(PIN, Stack(KEY), PIN)
        for numbers, index in (((3,), 0), ((-1,), 0), ((0, 1, 3), 2), ((0, 0), 1), ((2, 1, 2), 2), ((1, -3), 1),
                               ((True,), 0), ((0, False), 1), ((0, True), 1), ((None,), 0), (("0",), 0)):
            self.fails(UnknownRule, least_risk, stack, numbers, index=index)
        self.fails(UnknownRule, least_risk, Stack(), (0,), index=0)

    def test_too_many(self):
        self.fails(TooMany, least_risk, Stack(*idle(7)), tuple(range(7)))
        self.fails(TooMany, least_risk, Stack(*idle(12)), tuple(range(11, -1, -1)))

    def test_unknown_rule_ahead_of_too_many(self):
        stack = Stack(*idle(8))
        for numbers, index in (((0, 1, 2, 3, 4, 5, 8), 6), ((0, 1, 2, 3, 4, 5, 6, 6), 7), ((-1, 1, 2, 3, 4, 5, 6), 0)):
            self.fails(UnknownRule, least_risk, stack, numbers, index=index)


if __name__ == "__main__":
    unittest.main()
