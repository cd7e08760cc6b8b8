"""Point 6: all answers of a stack."""

import inspect
import random
import unittest

from loginstacks.answers import answer_count, answers_in, first_in, first_out, in_count
from loginstacks.rules import Rule
from loginstacks.stacks import Stack
from tests import plain
from tests.support import Case, MODULES, idle_stack, sure

KEY_OR_PIN = Stack(Rule("key", "sufficient"), Rule("pin", "required"))


class AnswersTest(Case):
    def test_example(self):
        self.same([answer_count(KEY_OR_PIN), in_count(KEY_OR_PIN), first_out(KEY_OR_PIN),
                   list(answers_in(KEY_OR_PIN))[4]],
                  [16, 7, {"key": "no", "pin": "no"}, {"key": "no", "pin": "yes"}])

    def test_order(self):
        stack = Stack(sure("b", "ok"), sure("a", "ok"))
        pairs = [(one, other) for one in plain.RESULTS for other in plain.RESULTS]
        self.same(list(answers_in(stack)), [{"a": one, "b": other} for one, other in pairs])

    def test_order_of_results(self):
        self.same([row["a"] for row in answers_in(Stack(sure("a", "ok")))], ["yes", "no", "skip", "gone"])

    def test_names_are_ascending(self):
        stack = Stack(sure("d", "ok"), Stack(sure("b", "ok"), sure("a", "ok")), sure("c", "ok"))
        for row in list(answers_in(stack)) + [first_in(stack)]:
            self.assertEqual(list(row), ["a", "b", "c", "d"])
        self.assertEqual(list(first_out(idle_stack("cab"))), ["a", "b", "c"])

    def test_count(self):
        for many in range(7):
            self.same(answer_count(idle_stack(MODULES[:many])), 4 ** many)
        self.same(answer_count(Stack(sure("a", "ok"), Stack(sure("a", "bad")))), 4)
        self.same(in_count(Stack(*[Rule(name, "required") for name in "abcdef"])), 2 ** 6 - 1)

    def test_empty_stack(self):
        for stack in (Stack(), Stack(Stack(), Stack())):
            self.same((answer_count(stack), in_count(stack), list(answers_in(stack))), (1, 0, []))
            self.same((first_in(stack), first_out(stack)), (None, {}))

    def test_none_lead_there(self):
        self.same(first_in(idle_stack("ab")), None)
        self.same(first_out(idle_stack("ab")), {"a": "yes", "b": "yes"})
        self.same(list(answers_in(idle_stack("ab"))), [])
        self.same(in_count(idle_stack("ab")), 0)
        stack = Stack(sure("a", "ok"))
        self.same((first_in(stack), first_out(stack), in_count(stack)), ({"a": "yes"}, None, 4))

    def test_answers_in_is_a_generator(self):
        self.assertTrue(inspect.isgenerator(answers_in(KEY_OR_PIN)))
        rows = answers_in(KEY_OR_PIN)
        row = next(rows)
        row["key"] = "no"
        self.same(next(rows), {"key": "yes", "pin": "no"})

    def test_beside_a_plain_search(self):
        rng = random.Random(6)
        for _ in range(150):
            stack = plain.random_stack(rng, MODULES[:4])
            rows = plain.all_answers(stack.modules)
            lead_in = [row for row in rows if plain.word(stack, row) == "in"]
            lead_out = [row for row in rows if plain.word(stack, row) == "out"]
            self.same(answer_count(stack), len(rows))
            self.same(in_count(stack), len(lead_in))
            self.same(list(answers_in(stack)), lead_in)
            self.same((first_in(stack), first_out(stack)), ((lead_in + [None])[0], (lead_out + [None])[0]))


if __name__ == "__main__":
    unittest.main()
