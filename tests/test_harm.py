"""Points 11 and 12: what spoils, and what lets in."""

import random
import unittest

from loginstacks.errors import UnknownModule
from loginstacks.harm import bars, fails_open, harm_shown, harms, keys
from loginstacks.rules import Rule
from loginstacks.stacks import Stack
from tests import plain
from tests.support import Case, MODULES, idle_stack, sure

OLD = Stack(Rule("old", ("die", "ignore", "ignore", "ignore")), Rule("pin", "required"))
BAN = Stack(Rule("ban", ("ignore", "die", "ignore", "ignore")), Rule("pin", "required"))
KEY_OR_PIN = Stack(Rule("key", "sufficient"), Rule("pin", "required"))


def plainly_turned(stack, module, word, result, told=plain.RESULTS):
    """The answers that lead to a word, but elsewhere if a module with one of the told results tells another one."""
    return [row for row in plain.all_answers(stack.modules) if row[module] in told and plain.word(stack, row) == word
            and plain.word(stack, {**row, module: result}) != word]


def plainly_shown(stack, module):
    return (plainly_turned(stack, module, "in", "yes") + [None])[0]


def plainly_open(stack):
    return [module for module in stack.modules if plainly_turned(stack, module, "out", "gone", ("no",))]


def plainly_least(stack, is_one):
    """The ascending list of the least ones of all sets of modules that are one."""
    found = [set(chosen) for chosen in plain.tuples_of(stack.modules) if is_one(stack, chosen)]
    return sorted(tuple(sorted(one)) for one in found if not any(other < one for other in found))


def is_plain_key(stack, chosen):
    rows = [row for row in plain.all_answers(stack.modules) if all(row[name] == "yes" for name in chosen)]
    return all(plain.word(stack, row) == "in" for row in rows)


def is_plain_bar(stack, chosen):
    rows = [row for row in plain.all_answers(stack.modules) if not any(row[name] == "yes" for name in chosen)]
    return all(plain.word(stack, row) == "out" for row in rows)


def some_stacks(seed, many):
    """Stacks of the four words alone, and stacks with tables, jumps and inner stacks."""
    rng = random.Random(seed)
    return [make(rng, MODULES[:4]) for make in (plain.random_word_stack, plain.random_stack) for _ in range(many)]


class HarmTest(Case):
    def test_example(self):
        self.same([harms(OLD), harm_shown(OLD, "old"), harm_shown(OLD, "pin"), fails_open(OLD), fails_open(BAN)],
                  [["old"], {"old": "no", "pin": "yes"}, None, [], ["ban"]])

    def test_shows_the_first_answers(self):
        stack = Stack(Rule("b", ("bad", "ok", "ok", "ok")), Rule("a", ("ignore", "ignore", "bad", "ignore")),
                      Rule("c", ("bad", "die", "ignore", "ok")))
        self.same(harm_shown(stack, "b"), {"a": "yes", "b": "no", "c": "skip"})
        self.same(harm_shown(stack, "c"), {"a": "yes", "b": "no", "c": "skip"})
        self.same(harm_shown(stack, "a"), None)
        self.same(harms(stack), ["b", "c"])

    def test_spoils_by_a_jump(self):
        stack = Stack(Rule("lan", (1, "ignore", "ignore", "ignore")), Rule("pin", "optional"))
        self.same((harms(stack), harm_shown(stack, "lan")), (["lan"], {"lan": "no", "pin": "yes"}))

    def test_does_not_spoil_what_leads_out_anyway(self):
        stack = Stack(Rule("a", ("bad", "bad", "bad", "ignore")), Rule("b", "required"))
        self.same((harms(stack), harm_shown(stack, "a")), (["a"], {"a": "gone", "b": "yes"}))
        stack = Stack(sure("a", "bad"), Rule("b", "required"))
        self.same((harms(stack), harm_shown(stack, "a"), harm_shown(stack, "b")), ([], None, None))

    def test_unknown_module(self):
        for name in ("zoo", "", "pins", None, 0, ("pin",)):
            self.fails(UnknownModule, harm_shown, OLD, name)
            self.fails(UnknownModule, harm_shown, Stack(), name)
            self.fails(UnknownModule, harm_shown, Stack(Stack()), name)
        self.fails(UnknownModule, harm_shown, BAN, "old")

    def test_empty_stack(self):
        for stack in (Stack(), Stack(Stack())):
            self.same((harms(stack), fails_open(stack)), ([], []))

    def test_a_module_without_a_say(self):
        stack = idle_stack("ab")
        self.same((harms(stack), harm_shown(stack, "b"), fails_open(stack)), ([], None, []))
        stack = Stack(sure("a", "ok"), sure("b", "ignore"))
        self.same((harms(stack), harm_shown(stack, "a"), fails_open(stack)), ([], None, []))

    def test_fails_open_turns_a_no_alone(self):
        rows = [(("ignore", "ignore", "ignore", "ok"), ["a"]), (("ok", "ok", "ignore", "ok"), []),
                (("ignore", "ok", "ignore", "ok"), []), (("ignore", "ok", "ok", "ignore"), []),
                (("ok", "ignore", "ok", "ignore"), []), (("ok", "bad", "ok", "ok"), ["a"])]
        for control, found in rows:
            self.same(fails_open(Stack(Rule("a", control))), found)

    def test_fails_open_in_ascending_order(self):
        lax = ("ok", "die", "ignore", "ignore")
        stack = Stack(Rule("c", lax), Rule("a", lax), Rule("b", "required"), Rule("d", "optional"))
        self.same((fails_open(stack), harms(stack)), (["a", "c"], []))

    def test_beside_a_plain_search(self):
        spoiled = 0
        for stack in some_stacks(11, 70):
            shown = [plainly_shown(stack, module) for module in stack.modules]
            self.same([harm_shown(stack, module) for module in stack.modules], shown)
            self.same(harms(stack), [name for name, row in zip(stack.modules, shown) if row is not None])
            self.same(fails_open(stack), plainly_open(stack))
            spoiled += len(harms(stack)) > 0 and len(fails_open(stack)) > 0
        self.assertGreater(spoiled, 5)


class KeysTest(Case):
    def test_example(self):
        self.same([keys(KEY_OR_PIN), bars(KEY_OR_PIN), keys(Stack()), bars(Stack())],
                  [[("key",), ("pin",)], [("key", "pin")], [], [()]])

    def test_the_empty_set(self):
        stack = Stack(sure("a", "ok"), Rule("b", "optional"))
        self.same((keys(stack), bars(stack)), ([()], []))
        self.same((keys(idle_stack("abc")), bars(idle_stack("abc"))), ([], [()]))
        self.same((keys(Stack(Stack())), bars(Stack(Stack()))), ([], [()]))

    def test_no_key_and_no_bar(self):
        stack = Stack(Rule("a", ("ok", "ok", "ok", "bad")), Rule("b", ("ignore", "ignore", "ignore", "bad")))
        self.same((keys(stack), bars(stack)), ([("a", "b")], []))
        stack = Stack(Rule("a", ("bad", "ok", "ok", "ok")))
        self.same((keys(stack), bars(stack)), ([], []))

    def test_ascending_although_of_different_lengths(self):
        stack = Stack(Rule("b", "sufficient"), Rule("a", "requisite"), Rule("d", "requisite"))
        self.same(keys(stack), [("a", "d"), ("b",)])
        stack = Stack(Rule("c", "sufficient"), Stack(Rule("d", "requisite"), Rule("b", "requisite")))
        self.same(keys(stack), [("b", "d"), ("c",)])
        both = Stack(Rule("b", ("ok",) + ("die",) * 3), Rule("a", ("done",) + ("ignore",) * 3),
                     Rule("d", ("ok",) + ("die",) * 3))
        self.same((keys(both), bars(both)), ([("a", "b"), ("b", "d")], [("a", "d"), ("b",)]))

    def test_only_the_least_ones(self):
        stack = Stack(*[Rule(name, "sufficient") for name in "fedcba"])
        self.same(keys(stack), [("a",), ("b",), ("c",), ("d",), ("e",), ("f",)])
        self.same(bars(stack), [("a", "b", "c", "d", "e", "f")])
        strict = ("ok", "die", "die", "die")
        stack = Stack(*[Rule(name, strict) for name in "fedcba"])
        self.same(keys(stack), [("a", "b", "c", "d", "e", "f")])
        self.same(bars(stack), [("a",), ("b",), ("c",), ("d",), ("e",), ("f",)])

    def test_a_yes_of_others_does_not_help(self):
        # Of "a" and "b" either one lets in alone, but not both.
        stack = Stack(Rule("a", "optional"), Rule("b", ("ok", "ignore", "ignore", "ignore")),
                      Rule("a", ("ignore", 1, 1, 1)), Rule("b", ("die", "ignore", "ignore", "ignore")))
        self.same((keys(stack), bars(stack)), ([], [("a", "b")]))

    def test_beside_a_plain_search(self):
        rich = 0
        for stack in some_stacks(12, 60):
            self.same(keys(stack), plainly_least(stack, is_plain_key))
            self.same(bars(stack), plainly_least(stack, is_plain_bar))
            rich += len(keys(stack)) > 1 or len(bars(stack)) > 1
        self.assertGreater(rich, 5)


if __name__ == "__main__":
    unittest.main()
