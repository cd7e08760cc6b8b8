"""Point 10: needless rules, and entries that can change places."""

import random
import unittest

from loginstacks.rules import Rule
from loginstacks.stacks import Stack
from loginstacks.trimming import free_pairs, least_kept, least_stack, needless
from tests import plain
from tests.support import Case, IGNORE, MODULES, idle_stack, sure

PIN, KEY = Rule("pin", "required"), Rule("key", "required")


def told(stack):
    return (needless(stack), least_kept(stack), free_pairs(stack))


def is_alike(one, other):
    return plain.parting(one, other) == []


def plainly_kept(stack):
    choices = plain.tuples_of(range(len(stack.rules)))
    return next(chosen for chosen in choices if is_alike(stack, plain.kept(stack, chosen)))


def plainly_needless(stack):
    numbers = list(range(len(stack.rules)))
    return [one for one in numbers if is_alike(stack, plain.kept(stack, [other for other in numbers if other != one]))]


def plainly_free(stack):
    found = []
    for index in range(len(stack) - 1):
        entries = list(stack.entries)
        entries[index], entries[index + 1] = entries[index + 1], entries[index]
        if is_alike(stack, Stack(*entries)):
            found.append(index)
    return found


class TrimmingTest(Case):
    def test_example(self):
        stack = Stack(PIN, Rule("pin", "requisite"), KEY)
        self.same([needless(stack), least_kept(stack), len(least_stack(stack)), free_pairs(stack)],
                  [[0, 1], (0, 2), 2, [0, 1]])
        self.assertEqual(least_stack(stack), Stack(PIN, KEY))

    def test_empty_stack(self):
        for stack in (Stack(), Stack(Stack())):
            self.same(told(stack), ([], (), []))
            self.assertEqual(least_stack(stack), stack)
        self.same(told(Stack(Stack(), Stack(Stack()))), ([], (), [0]))
        self.assertEqual(least_stack(Stack(Stack(), PIN)), Stack(Stack(), PIN))

    def test_nothing_is_needed(self):
        self.same(told(idle_stack("abc")), ([0, 1, 2], (), [0, 1]))
        self.assertEqual(least_stack(idle_stack("abc")), Stack())

    def test_all_is_needed(self):
        stack = Stack(Rule("key", "sufficient"), Rule("card", "requisite"), PIN)
        self.same(told(stack), ([], (0, 1, 2), [1]))
        self.assertEqual(least_stack(stack), stack)

    def test_needless_each_one_alone(self):
        stack = Stack(PIN, KEY, PIN)
        self.same(told(stack), ([0, 2], (0, 1), [0, 1]))

    def test_jumps_over_entries(self):
        stack = Stack(Rule("a", (2, "ignore", "ignore", "ignore")), Rule("b", IGNORE), Rule("c", "requisite"), PIN)
        self.same(told(stack), ([], (0, 1, 2, 3), [1]))
        stack = Stack(Rule("a", (1, "ignore", "ignore", "ignore")), Stack(Rule("b", IGNORE), Rule("c", "requisite")), PIN)
        self.same(told(stack), ([1], (0, 2, 3), []))
        self.assertEqual(least_stack(stack), Stack(stack[0], Stack(Rule("c", "requisite")), PIN))

    def test_inner_stacks_of_which_nothing_is_left(self):
        jump = Rule("a", (1, "ignore", "ignore", "ignore"))
        stack = Stack(jump, Stack(Rule("b", IGNORE)), PIN)
        self.same(told(stack), ([0], (2,), []))
        self.assertEqual(least_stack(stack), Stack(PIN))
        # The inner stack was empty before, so it stays and is what the jump leaves out.
        stack = Stack(jump, Stack(), PIN)
        self.same(told(stack), ([0], (1,), []))
        self.assertEqual(least_stack(stack), Stack(Stack(), PIN))
        stack = Stack(jump, Stack(Rule("b", IGNORE), Stack()), PIN)
        self.same(told(stack), ([0, 1], (2,), []))
        self.assertEqual(least_stack(stack), Stack(Stack(Stack()), PIN))

    def test_inner_entries_do_not_count_as_free(self):
        self.same(free_pairs(Stack(Stack(PIN, KEY), Stack(KEY, PIN))), [0])
        self.same(free_pairs(Stack(Stack(PIN, KEY))), [])

    def test_first_one_of_several(self):
        self.same(least_kept(Stack(PIN, PIN, PIN, KEY, KEY)), (0, 3))
        self.same(least_kept(Stack(Rule("a", IGNORE), sure("b", "ok"), sure("a", "ok"))), (1,))
        self.same(least_kept(Stack(Rule("d", IGNORE), Stack(Rule("c", IGNORE), PIN), Rule("pin", "requisite"))), (2,))

    def test_large_stacks(self):
        names = "abcdef"
        stack = Stack(*[Rule(name, "required") for name in names], Stack(*[Rule(name, "required") for name in names]))
        self.same(least_kept(stack), (0, 1, 2, 3, 4, 5))
        self.assertEqual(least_stack(stack), Stack(*[Rule(name, "required") for name in names]))
        self.same(least_kept(idle_stack(names) + idle_stack(names)), ())

    def test_needless_beside_a_plain_search(self):
        rng = random.Random(101)
        for _ in range(80):
            stack = plain.random_stack(rng, MODULES[:3], 7)
            self.same(needless(stack), plainly_needless(stack))

    def test_least_beside_a_plain_search(self):
        rng = random.Random(102)
        for _ in range(60):
            stack = plain.random_stack(rng, MODULES[:3], 6)
            kept = plainly_kept(stack)
            self.same(least_kept(stack), kept)
            self.assertEqual(least_stack(stack), plain.kept(stack, kept))

    def test_free_pairs_beside_a_plain_search(self):
        rng = random.Random(103)
        for _ in range(120):
            stack = plain.random_stack(rng, MODULES[:3], 7)
            self.same(free_pairs(stack), plainly_free(stack))


if __name__ == "__main__":
    unittest.main()
