"""Point 15: shares of all logins."""

import random
import unittest
from fractions import Fraction

from loginstacks.errors import InvalidWeights, UnknownModule
from loginstacks.rules import Rule
from loginstacks.stacks import Stack
from loginstacks.weights import gain, share_blamed, share_in
from tests import plain
from tests.support import Case, MODULES, idle_stack, sure

KEY_OR_PIN = Stack(Rule("key", "sufficient"), Rule("pin", "required"))
EVEN = (1, 1, 1, 1)
WRONG_WEIGHTS = ((), (1, 1, 1), (1, 1, 1, 1, 1), (0, 0, 0, 0), (1, -1, 1, 1), (1001, 1, 1, 1), (1, 1, 1, 1001),
                 (True, 1, 1, 1), (1, 1, 1, False), [1, 1, 1, 1], "1111", None, 1, {}, (1, 1, 1, "1"), (1, 1, 1, None),
                 (1, 1, (1,), 1), (-1, 1, 0, 0), (1, 1, 2, -4))


def plain_share(stack, weights, chosen):
    """The share of the answers that are chosen, as a fraction of Python's own."""
    part, whole = Fraction(0), Fraction(0)
    for row in plain.all_answers(stack.modules):
        weight = Fraction(1)
        for name in row:
            weight *= weights[name][plain.RESULTS.index(row[name])]
        whole += weight
        part += weight if chosen(row) else 0
    return part / whole


def told(fraction):
    return (fraction.numerator, fraction.denominator)


def plain_in(stack, weights):
    return plain_share(stack, weights, lambda row: plain.word(stack, row) == "in")


def plain_gain(stack, weights, module):
    """The gain, with each answer in turn changed to a "yes" of the module."""
    then = plain_share(stack, weights, lambda row: plain.word(stack, {**row, module: "yes"}) == "in")
    return then - plain_in(stack, weights)


def plain_blamed(stack, weights):
    return [plain_share(stack, weights, lambda row: plain.told(stack, row)[2] == number)
            for number in range(len(stack.rules))]


def random_weights(rng, modules):
    found = {}
    for name in modules:
        row = [rng.choice((0, 0, 1, 2, 3, 7, 999, 1000)) for _ in range(4)]
        found[name] = tuple(row) if any(row) else EVEN
    return found


class SharesTest(Case):
    def test_example(self):
        weights = {"key": (1, 1, 0, 0), "pin": (1, 3, 0, 0)}
        self.same([share_in(KEY_OR_PIN, weights), share_blamed(KEY_OR_PIN, weights), gain(KEY_OR_PIN, weights, "pin")],
                  [(5, 8), [(0, 1), (3, 8)], (3, 8)])

    def test_lowest_terms(self):
        stack = Stack(Rule("a", "required"))
        self.same(share_in(stack, {"a": (2, 2, 4, 8)}), (1, 8))
        self.same(share_blamed(stack, {"a": (2, 2, 4, 8)}), [(5, 8)])
        self.same(gain(stack, {"a": (2, 2, 4, 8)}, "a"), (7, 8))
        self.same(share_in(stack, {"a": (6, 4, 0, 0)}), (3, 5))

    def test_nothing_and_all(self):
        weights = {"a": (0, 1000, 0, 0), "b": (5, 5, 5, 5)}
        stack = Stack(Rule("a", "required"), Rule("b", "optional"))
        self.same((share_in(stack, weights), share_blamed(stack, weights)), ((0, 1), [(1, 1), (0, 1)]))
        self.same((gain(stack, weights, "a"), gain(stack, weights, "b")), ((1, 1), (0, 1)))
        self.same(share_in(Stack(sure("a", "ok")), {"a": EVEN}), (1, 1))
        self.same(gain(Stack(sure("a", "ok")), {"a": EVEN}, "a"), (0, 1))

    def test_empty_stack(self):
        for stack in (Stack(), Stack(Stack())):
            self.same((share_in(stack, {}), share_blamed(stack, {})), ((0, 1), []))
            self.fails(UnknownModule, gain, stack, {}, "pin")

    def test_a_gain_below_0(self):
        stack = Stack(Rule("old", ("die", "ignore", "ignore", "ignore")), Rule("pin", "required"))
        weights = {"old": (1, 3, 0, 0), "pin": (2, 1, 0, 0)}
        self.same((share_in(stack, weights), gain(stack, weights, "old")), ((1, 2), (-1, 2)))
        self.same(gain(stack, {"old": (1, 0, 0, 0), "pin": EVEN}, "old"), (0, 1))
        self.same(gain(stack, {"old": (2, 2, 2, 2), "pin": (1, 3, 0, 0)}, "old"), (-3, 16))

    def test_a_yes_that_is_never_told(self):
        weights = {"key": (0, 1, 1, 1), "pin": (0, 0, 0, 1)}
        self.same([share_in(KEY_OR_PIN, weights), gain(KEY_OR_PIN, weights, "key"), gain(KEY_OR_PIN, weights, "pin")],
                  [(0, 1), (1, 1), (1, 1)])

    def test_rules_of_inner_stacks_are_blamed(self):
        stack = Stack(Rule("a", "optional"), Stack(Rule("b", "required"), Rule("a", "required")), Rule("b", "required"))
        weights = {"a": (1, 1, 0, 0), "b": (3, 1, 0, 0)}
        self.same(share_blamed(stack, weights), [(0, 1), (1, 4), (3, 8), (0, 1)])

    def test_great_weights(self):
        stack = Stack(*[Rule(name, ("ok", "die", "die", "die")) for name in "abcdef"])
        weights = {name: (1000, 999, 998, 997) for name in "abcdef"}
        whole = Fraction(1000, 3994)
        self.same(share_in(stack, weights), told(whole ** 6))
        self.same(share_blamed(stack, weights), [told(whole ** number * (1 - whole)) for number in range(6)])
        self.same(gain(stack, weights, "c"), told(whole ** 5 - whole ** 6))

    def test_beside_a_plain_search(self):
        rng = random.Random(15)
        lesser = 0
        for make in (plain.random_stack, plain.random_word_stack):
            for _ in range(50):
                stack = make(rng, MODULES[:3])
                weights = random_weights(rng, stack.modules)
                self.same(share_in(stack, weights), told(plain_in(stack, weights)))
                self.same(share_blamed(stack, weights), [told(one) for one in plain_blamed(stack, weights)])
                gains = [gain(stack, weights, name) for name in stack.modules]
                self.same(gains, [told(plain_gain(stack, weights, name)) for name in stack.modules])
                lesser += any(one[0] < 0 for one in gains)
        self.assertGreater(lesser, 5)


class WrongTest(Case):
    def check(self, weights, name, stack=KEY_OR_PIN):
        self.fails(InvalidWeights, share_in, stack, weights, name=name)
        self.fails(InvalidWeights, share_blamed, stack, weights, name=name)
        for module in ("key", "pin", "zoo", "", None):
            self.fails(InvalidWeights, gain, stack, weights, module, name=name)

    def test_missing_and_superfluous(self):
        self.check({}, "key")
        self.check({"key": EVEN}, "pin")
        self.check({"pin": EVEN}, "key")
        self.check({"key": EVEN, "pin": EVEN, "lan": EVEN}, "lan")
        self.check({"zoo": EVEN, "key": EVEN, "tan": EVEN, "pin": EVEN}, "tan")
        self.check({"a": EVEN}, "a", Stack())

    def test_no_such_tuple(self):
        for wrong in WRONG_WEIGHTS:
            self.check({"key": EVEN, "pin": wrong}, "pin")
            self.check({"key": wrong, "pin": wrong}, "key")

    def test_the_least_name(self):
        self.check({"zoo": EVEN, "pin": None}, "key")
        self.check({"zoo": EVEN, "pin": None, "key": EVEN}, "pin")
        self.check({"zoo": None, "pin": EVEN, "key": EVEN}, "zoo")
        self.check({"box": EVEN, "pin": None}, "box")
        self.check({"lan": EVEN, "pin": None, "key": EVEN}, "lan")

    def test_the_bounds_themselves(self):
        weights = {"key": (0, 0, 0, 1), "pin": (1000, 1000, 1000, 1000)}
        self.same(share_in(KEY_OR_PIN, weights), (1, 4))
        self.same(share_in(idle_stack("a"), {"a": (0, 0, 1000, 0)}), (0, 1))

    def test_unknown_module(self):
        weights = {"key": EVEN, "pin": EVEN}
        for name in ("zoo", "", "keys", None, 0, ("pin",)):
            self.fails(UnknownModule, gain, KEY_OR_PIN, weights, name)


if __name__ == "__main__":
    unittest.main()
