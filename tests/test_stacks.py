"""Point 3: stacks."""

import random
import unittest

from loginstacks.errors import InvalidPlace, InvalidStack, UnknownRule
from loginstacks.rules import Rule
from loginstacks.stacks import Stack
from tests import plain
from tests.support import Case, IGNORE, MODULES, idle, idle_stack

KEY, CARD, PIN = Rule("key", "sufficient"), Rule("card", "sufficient"), Rule("pin", "required")


class ExamplesTest(Case):
    def test_example(self):
        stack = Stack(Stack(KEY, CARD), PIN)
        told = [len(stack), len(stack.rules), stack.modules, len(stack.without((0, 1))),
                stack.without((0,))[0].modules, stack.spliced(0, 1, ()).modules]
        self.same(told, [2, 3, ("card", "key", "pin"), 1, ("card",), ("pin",)])

    def test_example_error(self):
        self.fails(InvalidStack, Stack, PIN, Stack(Stack(Stack())), index=1)


class LimitsTest(Case):
    def test_no_entries(self):
        self.same((Stack().entries, Stack().rules, Stack().modules, len(Stack())), ((), (), (), 0))

    def test_entries(self):
        self.assertEqual(len(Stack(*idle(12))), 12)
        self.assertEqual(len(Stack(*[Stack() for _ in range(12)])), 12)
        self.fails(InvalidStack, Stack, *idle(13), index=12)
        self.fails(InvalidStack, Stack, *[Stack() for _ in range(13)], index=12)
        self.fails(InvalidStack, Stack, *[Stack() for _ in range(20)], index=12)
        inner = Stack(*[Stack() for _ in range(12)])
        self.assertEqual(len(Stack(inner, inner)), 2)

    def test_rules_with_those_of_inner_stacks(self):
        self.assertEqual(len(Stack(Stack(*idle(11)), *idle(1)).rules), 12)
        self.assertEqual(len(Stack(Stack(Stack(*idle(6))), *idle(5), Stack(*idle(1))).rules), 12)
        self.fails(InvalidStack, Stack, Stack(*idle(12)), *idle(1), index=1)
        self.fails(InvalidStack, Stack, Stack(*idle(6)), Stack(*idle(6)), Stack(), Stack(*idle(1)), index=3)
        self.fails(InvalidStack, Stack, *idle(3), Stack(Stack(*idle(10))), *idle(1), index=3)
        self.assertEqual(len(Stack(Stack(*idle(12)), Stack(), Stack(Stack()))), 3)

    def test_modules_with_those_of_inner_stacks(self):
        self.assertEqual(idle_stack("fedcba").modules, ("a", "b", "c", "d", "e", "f"))
        self.fails(InvalidStack, Stack, *[Rule(name, IGNORE) for name in MODULES], index=6)
        self.assertEqual(len(Stack(idle_stack("abcdef"), idle_stack("fedcba")).rules), 12)
        self.fails(InvalidStack, Stack, idle_stack("abcd"), *idle(2, "d"), idle_stack("aefg"), *idle(1, "h"), index=3)
        self.fails(InvalidStack, Stack, idle_stack("abcdef"), *idle(5), *idle(1, "g"), index=6)
        self.fails(InvalidStack, Stack, Stack(idle_stack("ab"), idle_stack("cd")), idle_stack("ef"), *idle(1, "g"),
                   index=2)

    def test_depth(self):
        deep = Stack(Stack(Stack(PIN)))
        self.assertEqual(deep.rules, (PIN,))
        self.fails(InvalidStack, Stack, deep, index=0)
        self.fails(InvalidStack, Stack, PIN, Stack(), Stack(Stack()), Stack(PIN, Stack(), Stack(Stack())), PIN, index=3)
        self.assertEqual(len(Stack(Stack(Stack()), Stack(Stack(), Stack()))), 2)

    def test_no_entry(self):
        for wrong in (None, 0, 1, True, "pin", "required", (), (PIN,), [PIN], ("pin", "required"), Rule, Stack):
            self.fails(InvalidStack, Stack, wrong, index=0)
            self.fails(InvalidStack, Stack, PIN, Stack(PIN), wrong, PIN, index=2)

    def test_first_fault_counts(self):
        self.fails(InvalidStack, Stack, *idle(13), None, index=12)
        self.fails(InvalidStack, Stack, None, *idle(13), index=0)
        self.fails(InvalidStack, Stack, Stack(*idle(12)), None, *idle(1), index=1)
        self.fails(InvalidStack, Stack, Stack(Stack(Stack())), None, index=0)


class ReadingTest(Case):
    def test_entries_and_index(self):
        inner = Stack(CARD)
        stack = Stack(KEY, inner, PIN)
        self.assertEqual(stack.entries, (KEY, inner, PIN))
        self.assertIsInstance(stack.entries, tuple)
        self.assertEqual([stack[0], stack[1], stack[2]], [KEY, inner, PIN])
        self.assertEqual(len(stack), 3)
        with self.assertRaises(IndexError):
            stack[3]

    def test_cannot_be_iterated_over(self):
        for stack in (Stack(), Stack(PIN), Stack(KEY, Stack(PIN))):
            for reader in (iter, list, tuple, sorted):
                with self.assertRaises(TypeError):
                    reader(stack)
            with self.assertRaises(TypeError):
                for _ in stack:
                    pass

    def test_rules_as_they_are_written(self):
        parts = [Rule(name, "optional") for name in "dbcafe"]
        stack = Stack(parts[0], Stack(Stack(parts[1], parts[2]), Stack(), parts[3]), parts[4], Stack(parts[5]))
        self.assertEqual(stack.rules, tuple(parts))
        self.assertIsInstance(stack.rules, tuple)
        self.same(stack.modules, ("a", "b", "c", "d", "e", "f"))

    def test_modules_are_named_once(self):
        self.same(Stack(PIN, KEY, Stack(PIN, KEY), Rule("pin", "optional")).modules, ("key", "pin"))

    def test_properties_cannot_be_assigned(self):
        for name in ("entries", "rules", "modules"):
            with self.assertRaises(AttributeError):
                setattr(Stack(PIN), name, ())


class JoiningTest(Case):
    def test_sum(self):
        one, other = Stack(KEY, Stack(CARD)), Stack(PIN)
        self.assertEqual((one + other).entries, (KEY, Stack(CARD), PIN))
        self.assertEqual((other + one).entries, (PIN, KEY, Stack(CARD)))
        self.assertEqual((one + Stack()).entries, one.entries)
        self.assertEqual((one.entries, other.entries), ((KEY, Stack(CARD)), (PIN,)))

    def test_sum_with_too_much(self):
        self.fails(InvalidStack, lambda: Stack(*idle(7)) + Stack(*idle(6)), index=12)
        self.fails(InvalidStack, lambda: Stack(Stack(*idle(7))) + Stack(PIN, Stack(*idle(5))), index=2)
        self.fails(InvalidStack, lambda: idle_stack("abcd") + idle_stack("defg"), index=7)
        self.assertEqual(len(Stack(*idle(7)) + Stack(*idle(5))), 12)

    def test_sum_with_what_is_no_stack(self):
        for other in (PIN, (PIN,), [PIN], None, 1):
            with self.assertRaises(TypeError):
                Stack(PIN) + other

    def test_equality(self):
        one = Stack(KEY, Stack(CARD), PIN)
        alike = Stack(Rule("key", "sufficient"), Stack(Rule("card", ("done",) + ("ignore",) * 3)), PIN)
        self.assertTrue(one == alike)
        self.assertFalse(one != alike)
        for other in (Stack(), Stack(KEY, CARD, PIN), Stack(KEY, PIN, Stack(CARD)), Stack(KEY, Stack(CARD)), Stack(one),
                      Stack(KEY, Stack(CARD), PIN, PIN), Stack(KEY, Stack(PIN), PIN), Stack(KEY, Stack(Stack(CARD)), PIN)):
            self.assertFalse(one == other)
            self.assertTrue(one != other)

    def test_equality_with_what_is_no_stack(self):
        for stack in (Stack(), Stack(PIN)):
            for other in (PIN, None, 0, "", (), (PIN,), [PIN], stack.entries):
                self.assertFalse(stack == other)
                self.assertFalse(other == stack)
                self.assertTrue(stack != other)


class WithoutTest(Case):
    def test_numbers_count_inner_rules(self):
        stack = Stack(KEY, Stack(CARD, Stack(PIN), KEY), CARD)
        self.assertEqual(stack.without(()), stack)
        self.assertEqual(stack.without((0,)), Stack(Stack(CARD, Stack(PIN), KEY), CARD))
        self.assertEqual(stack.without((1,)), Stack(KEY, Stack(Stack(PIN), KEY), CARD))
        self.assertEqual(stack.without((2,)), Stack(KEY, Stack(CARD, KEY), CARD))
        self.assertEqual(stack.without((3,)), Stack(KEY, Stack(CARD, Stack(PIN)), CARD))
        self.assertEqual(stack.without((4,)), Stack(KEY, Stack(CARD, Stack(PIN), KEY)))
        self.assertEqual(stack.without((4, 0, 3)), Stack(Stack(CARD, Stack(PIN))))
        self.assertEqual(stack.without((3, 1, 2)), Stack(KEY, CARD))
        self.assertEqual(stack, Stack(KEY, Stack(CARD, Stack(PIN), KEY), CARD))

    def test_inner_stacks_that_become_empty(self):
        self.assertEqual(Stack(Stack(PIN)).without((0,)), Stack())
        self.assertEqual(Stack(Stack(Stack(PIN))).without((0,)), Stack())
        self.assertEqual(Stack(Stack(Stack(PIN), Stack(KEY))).without((1, 0)), Stack())
        self.assertEqual(Stack(Stack(Stack(PIN), Stack(KEY))).without((1,)), Stack(Stack(Stack(PIN))))

    def test_inner_stacks_that_were_empty_stay(self):
        self.assertEqual(Stack(Stack(), PIN).without((0,)), Stack(Stack()))
        self.assertEqual(Stack(Stack(Stack(), PIN), KEY).without((0,)), Stack(Stack(Stack()), KEY))
        self.assertEqual(Stack(Stack(Stack(PIN), Stack())).without((0,)), Stack(Stack(Stack())))
        self.assertEqual(Stack(Stack(Stack()), Stack(), Stack(PIN)).without((0,)), Stack(Stack(Stack()), Stack()))

    def test_unknown_numbers(self):
        stack = Stack(KEY, Stack(CARD), PIN)
        for numbers, index in (((3,), 0), ((-1,), 0), ((-3,), 0), ((0, 3), 1), ((2, 1, -2, 9), 2), ((99, -1), 0),
                               ((0, 0), 1), ((0, 1, 0, 5), 2), ((2, 5, 2), 1), ((1, 2, 0, 3), 3), ((1, 2, 2, 1), 2)):
            self.fails(UnknownRule, stack.without, numbers, index=index)
        self.fails(UnknownRule, Stack().without, (0,), index=0)
        self.fails(UnknownRule, Stack(Stack()).without, (0,), index=0)

    def test_booleans_are_no_numbers(self):
        stack = Stack(KEY, Stack(CARD), PIN)
        for numbers, index in (((True,), 0), ((False,), 0), ((2, True), 1), ((1, True), 1), ((0, False, 9), 1)):
            self.fails(UnknownRule, stack.without, numbers, index=index)

    def test_beside_a_plain_search(self):
        rng = random.Random(3)
        for _ in range(300):
            stack = plain.random_stack(rng, MODULES[:4])
            numbers = rng.sample(range(len(stack.rules)), rng.randint(0, len(stack.rules)))
            others = [number for number in range(len(stack.rules)) if number not in numbers]
            self.assertEqual(stack.without(tuple(numbers)), plain.kept(stack, others))


class SplicedTest(Case):
    def test_in_the_middle_and_at_the_ends(self):
        stack = Stack(KEY, Stack(CARD), PIN)
        self.assertEqual(stack.spliced(1, 1, (PIN, Stack())), Stack(KEY, PIN, Stack(), PIN))
        self.assertEqual(stack.spliced(0, 1, (CARD,)), Stack(CARD, Stack(CARD), PIN))
        self.assertEqual(stack.spliced(2, 1, ()), Stack(KEY, Stack(CARD)))
        self.assertEqual(stack.spliced(0, 3, ()), Stack())
        self.assertEqual(stack.spliced(0, 2, (CARD, KEY, PIN)), Stack(CARD, KEY, PIN, PIN))
        self.assertEqual(stack, Stack(KEY, Stack(CARD), PIN))

    def test_count_0(self):
        stack = Stack(KEY, PIN)
        self.assertEqual(stack.spliced(0, 0, (CARD,)), Stack(CARD, KEY, PIN))
        self.assertEqual(stack.spliced(1, 0, (CARD,)), Stack(KEY, CARD, PIN))
        self.assertEqual(stack.spliced(2, 0, (CARD, CARD)), Stack(KEY, PIN, CARD, CARD))
        self.assertEqual(stack.spliced(1, 0, ()), stack)
        self.assertEqual(Stack().spliced(0, 0, (PIN,)), Stack(PIN))

    def test_no_such_place(self):
        stack = Stack(KEY, Stack(CARD, CARD), PIN)
        for index, count in ((-1, 0), (-1, 1), (-3, 1), (0, -1), (2, -1), (3, -1), (4, 0), (4, -1), (3, 1), (2, 2),
                             (0, 4), (99, 0), (0, 99), (-1, -1)):
            self.fails(InvalidPlace, stack.spliced, index, count, (PIN,))
        self.fails(InvalidPlace, Stack().spliced, 0, 1, ())
        self.fails(InvalidPlace, Stack().spliced, 1, 0, ())

    def test_booleans_are_no_places(self):
        stack = Stack(KEY, Stack(CARD, CARD), PIN)
        for index, count in ((True, 1), (False, 0), (0, True), (1, False), (True, True)):
            self.fails(InvalidPlace, stack.spliced, index, count, (PIN,))

    def test_no_stack_then(self):
        full = Stack(*idle(12))
        self.fails(InvalidStack, full.spliced, 3, 0, (PIN,), index=12)
        self.fails(InvalidStack, full.spliced, 3, 1, (Stack(PIN, PIN),), index=12 - 1)
        self.assertEqual(len(full.spliced(3, 1, (PIN,))), 12)
        stack = Stack(KEY, PIN)
        self.fails(InvalidStack, stack.spliced, 1, 1, (CARD, "pin"), index=2)
        self.fails(InvalidStack, stack.spliced, 0, 0, (None,), index=0)
        self.fails(InvalidStack, stack.spliced, 2, 0, (Stack(Stack(Stack())),), index=2)
        self.fails(InvalidStack, idle_stack("abcdef").spliced, 0, 0, (PIN,), index=6)
        self.assertEqual(len(idle_stack("abcdef").spliced(0, 1, (PIN,))), 6)

    def test_place_ahead_of_stack(self):
        self.fails(InvalidPlace, Stack(PIN).spliced, 2, 0, (None,))
        self.fails(InvalidPlace, Stack(PIN).spliced, 0, 2, (None,))


if __name__ == "__main__":
    unittest.main()
