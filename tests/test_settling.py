"""Points 7 and 8: what some results settle, and what changes an outcome."""

import random
import unittest
from itertools import product

from loginstacks.errors import InvalidAnswers
from loginstacks.rules import Rule
from loginstacks.settling import least_change, least_reason, open_modules, settled
from loginstacks.stacks import Stack
from tests import plain
from tests.support import Case, IGNORE, MODULES, idle_stack, sure

KEY_OR_PIN = Stack(Rule("key", "sufficient"), Rule("pin", "required"))
WRONG_RESULTS = ("", "Yes", "ok", "none", "in", None, 0, 1, True, False, (), ("yes",))


def some_stacks(seed, many):
    rng = random.Random(seed)
    return rng, [plain.random_stack(rng, MODULES[:4]) for _ in range(many)]


def plainly_settled(stack, known):
    words = {plain.word(stack, row) for row in plain.with_known(stack.modules, known)}
    return words.pop() if len(words) == 1 else "open"


def plainly_open(stack, known):
    words = [(row, plain.word(stack, row)) for row in plain.with_known(stack.modules, known)]
    found = set()
    for one, word in words:
        for other, other_word in words:
            differing = [name for name in one if one[name] != other[name]]
            if len(differing) == 1 and word != other_word:
                found.add(differing[0])
    return sorted(found)


def plain_change(stack, answers):
    word = plain.word(stack, answers)
    changes = []
    for row in plain.all_answers(stack.modules):
        if plain.word(stack, row) != word:
            changes.append([(name, row[name]) for name in row if row[name] != answers[name]])

    def place(change):
        return len(change), [name for name, _ in change], [plain.RESULTS.index(result) for _, result in change]

    return min(changes, key=place, default=None)


class SettledTest(Case):
    def test_example(self):
        self.same([settled(KEY_OR_PIN, {"key": "yes"}), settled(KEY_OR_PIN, {"pin": "no"}),
                   open_modules(KEY_OR_PIN, {"pin": "no"}), open_modules(KEY_OR_PIN, {"pin": "yes"})],
                  ["in", "open", ["key"], []])

    def test_nothing_known(self):
        self.same((settled(KEY_OR_PIN, {}), open_modules(KEY_OR_PIN, {})), ("open", ["key", "pin"]))

    def test_all_known(self):
        for key, pin in product(plain.RESULTS, plain.RESULTS):
            answers = {"key": key, "pin": pin}
            self.same(settled(KEY_OR_PIN, answers), plain.word(KEY_OR_PIN, answers))
            self.same(open_modules(KEY_OR_PIN, answers), [])

    def test_the_same_whatever_is_told(self):
        for stack, word in ((Stack(sure("a", "ok"), Rule("b", IGNORE)), "in"), (idle_stack("ab"), "out")):
            for known in ({}, {"a": "no"}, {"b": "yes"}, {"b": "gone", "a": "skip"}):
                self.same((settled(stack, known), open_modules(stack, known)), (word, []))

    def test_empty_stack(self):
        self.same((settled(Stack(), {}), open_modules(Stack(), {})), ("out", []))

    def test_open_only_for_modules_that_decide_alone(self):
        # With "a" gone nothing is settled, and yet of "b" and "c" only one can decide.
        stack = Stack(Rule("a", ("ok", "ok", "ok", "ignore")), Rule("b", "optional"), Rule("c", IGNORE))
        self.same((settled(stack, {"a": "gone"}), open_modules(stack, {"a": "gone"})), ("open", ["b"]))
        self.same(open_modules(stack, {}), ["a", "b"])

    def test_wrong_known(self):
        stack = Stack(KEY_OR_PIN, Rule("lan", "optional"))
        rows = [({"pin": "yes", "zoo": "yes"}, "zoo"), ({"zoo": "yes", "tan": "no"}, "tan"),
                ({"pin": "maybe", "zoo": "yes"}, "pin"), ({"pin": "maybe", "box": "yes"}, "box"),
                ({"zoo": "maybe", "pin": "ok", "key": "yes"}, "pin"), ({"lan": "in", "key": "out"}, "key")]
        rows += [({"pin": wrong}, "pin") for wrong in WRONG_RESULTS]
        for known, name in rows:
            for call in (settled, open_modules):
                self.fails(InvalidAnswers, call, stack, known, name=name)

    def test_beside_a_plain_search(self):
        rng, stacks = some_stacks(7, 120)
        for stack in stacks:
            names = rng.sample(stack.modules, rng.randint(0, len(stack.modules)))
            known = {name: rng.choice(plain.RESULTS) for name in names}
            self.same(settled(stack, known), plainly_settled(stack, known))
            if len(stack.modules) - len(known) <= 3:
                self.same(open_modules(stack, known), plainly_open(stack, known))


class LeastTest(Case):
    def test_example(self):
        self.same([least_reason(KEY_OR_PIN, {"key": "no", "pin": "yes"}),
                   least_reason(KEY_OR_PIN, {"key": "no", "pin": "no"}),
                   least_change(KEY_OR_PIN, {"key": "gone", "pin": "no"})],
                  [("pin",), ("key", "pin"), [("key", "yes")]])

    def test_reason_of_what_is_always_so(self):
        self.same(least_reason(Stack(), {}), ())
        self.same(least_reason(idle_stack("abc"), {"a": "yes", "b": "no", "c": "gone"}), ())
        self.same(least_reason(Stack(sure("a", "ok")), {"a": "no"}), ())

    def test_first_one_of_several_reasons(self):
        stack = Stack(*[Rule(name, "sufficient") for name in "dcba"])
        self.same(least_reason(stack, {"a": "no", "b": "yes", "c": "yes", "d": "yes"}), ("b",))
        self.same(least_reason(stack, dict.fromkeys("abcd", "no")), ("a", "b", "c", "d"))
        stack = Stack(*[Rule(name, "requisite") for name in "fedcba"])
        self.same(least_reason(stack, dict.fromkeys("abcdef", "no")), ("a",))
        self.same(least_reason(stack, dict.fromkeys("abcdef", "yes")), ("a", "b", "c", "d", "e", "f"))

    def test_no_change(self):
        self.same(least_change(Stack(), {}), None)
        self.same(least_change(idle_stack("ab"), {"a": "yes", "b": "no"}), None)
        self.same(least_change(Stack(sure("a", "ok")), {"a": "no"}), None)

    def test_first_one_of_several_changes(self):
        stack = Stack(*[Rule(name, "sufficient") for name in "cba"])
        self.same(least_change(stack, dict.fromkeys("abc", "no")), [("a", "yes")])
        self.same(least_change(stack, dict.fromkeys("abc", "yes")), [("a", "no"), ("b", "no"), ("c", "no")])
        self.same(least_change(stack, {"a": "no", "b": "yes", "c": "yes"}), [("b", "no"), ("c", "no")])

    def test_first_results_in_their_own_order(self):
        self.same(least_change(Stack(Rule("a", ("ignore", "ignore", "ok", "ok"))), {"a": "no"}), [("a", "skip")])
        self.same(least_change(Stack(Rule("a", ("ok", "ignore", "ok", "ignore"))), {"a": "skip"}), [("a", "no")])
        self.same(least_change(Stack(Rule("a", ("ok", "ignore", "ignore", "ok"))), {"a": "gone"}), [("a", "no")])

    def test_wrong_answers(self):
        rows = [({}, "key"), ({"key": "yes"}, "pin"), ({"key": "yes", "pin": "no", "box": "no"}, "box"),
                ({"pin": "ok", "zoo": "yes"}, "key"), ({"pin": "ok", "zoo": "yes", "key": "no"}, "pin"),
                ({"pin": "yes", "zoo": "yes", "key": "no"}, "zoo")]
        rows += [({"key": "yes", "pin": wrong}, "pin") for wrong in WRONG_RESULTS]
        for answers, name in rows:
            for call in (least_reason, least_change):
                self.fails(InvalidAnswers, call, KEY_OR_PIN, answers, name=name)

    def test_reason_beside_a_plain_search(self):
        rng, stacks = some_stacks(81, 60)
        for stack in stacks:
            answers = rng.choice(plain.all_answers(stack.modules))
            reasons = [chosen for chosen in plain.tuples_of(stack.modules)
                       if plainly_settled(stack, {name: answers[name] for name in chosen}) != "open"]
            self.same(least_reason(stack, answers), reasons[0])

    def test_change_beside_a_plain_search(self):
        rng, stacks = some_stacks(82, 60)
        for stack in stacks:
            for answers in rng.sample(plain.all_answers(stack.modules), min(4, 4 ** len(stack.modules))):
                self.same(least_change(stack, answers), plain_change(stack, answers))


if __name__ == "__main__":
    unittest.main()
