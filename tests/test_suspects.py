"""Point 23: suspects."""

import random
import unittest

from loginstacks.errors import Contradiction, InvalidAnswers, InvalidSuspects, InvalidWord
from loginstacks.rules import Rule
from loginstacks.stacks import Stack
from loginstacks.suspects import Suspects
from tests import plain
from tests.support import Case, MODULES, idle_stack, sure

KEY, PIN = Rule("key", "sufficient"), Rule("pin", "required")
TWO = (Stack(KEY, PIN), Stack(PIN, KEY))
ONLY = ("ok", "die", "die", "die")


class PlainSuspects:
    """What the document says of suspects, by a plain search."""

    def __init__(self, stacks):
        self.names = sorted({rule.module for stack in stacks for rule in stack.rules})
        self.rows = plain.all_answers(self.names)
        self.words = [[plain.word(stack, row) for row in self.rows] for stack in stacks]
        self.columns = list(zip(*self.words))
        self.left = list(range(len(stacks)))

    def split(self, left, column):
        return tuple(tuple(index for index in left if column[index] == word) for word in ("in", "out"))

    def groups(self):
        found = []
        for index in self.left:
            same = [group for group in found if self.words[group[0]] == self.words[index]]
            if same:
                same[0].append(index)
            else:
                found.append([index])
        return found

    def best_answers(self):
        worst = [max(len(part) for part in self.split(self.left, column)) for column in self.columns]
        return self.rows[worst.index(min(worst))]

    def fewest_tests(self):
        return self.fewest([group[0] for group in self.groups()])

    def fewest(self, left):
        if len(left) == 1:
            return 0
        splits = {self.split(left, column) for column in set(self.columns)}
        return 1 + min(max(self.fewest(part) for part in split) for split in splits if () not in split)


def told(suspects):
    return (suspects.groups(), suspects.best_answers(), suspects.fewest_tests())


class ExamplesTest(Case):
    def test_example(self):
        suspects = Suspects(TWO)
        self.same([suspects.groups(), suspects.best_answers(), suspects.fewest_tests(),
                   suspects.see({"key": "yes", "pin": "no"}, "out"), suspects.remaining],
                  [[[0], [1]], {"key": "yes", "pin": "no"}, 1, 1, [1]])


class StacksTest(Case):
    def test_one_stack(self):
        suspects = Suspects((Stack(PIN),))
        self.same((suspects.remaining, suspects.history), ([0], []))
        self.same(told(suspects), ([[0]], {"pin": "yes"}, 0))
        self.same((suspects.see({"pin": "no"}, "out"), suspects.remaining), (1, [0]))
        self.fails(Contradiction, suspects.see, {"pin": "no"}, "in")

    def test_one_stack_without_modules(self):
        suspects = Suspects((Stack(),))
        self.same(told(suspects), ([[0]], {}, 0))
        self.same((suspects.see({}, "out"), suspects.history), (1, [({}, "out")]))

    def test_six_stacks(self):
        suspects = Suspects(tuple(Stack(Rule(name, "required")) for name in "abcdea"))
        self.same((suspects.remaining, suspects.groups()), ([0, 1, 2, 3, 4, 5], [[0, 5], [1], [2], [3], [4]]))
        self.same(suspects.fewest_tests(), 3)
        self.same(suspects.best_answers(), {"a": "yes", "b": "yes", "c": "no", "d": "no", "e": "no"})

    def test_none(self):
        self.fails(InvalidSuspects, Suspects, (), index=0)

    def test_seven_stacks(self):
        self.fails(InvalidSuspects, Suspects, (Stack(PIN),) * 7, index=6)
        self.fails(InvalidSuspects, Suspects, (Stack(),) * 9, index=6)
        self.fails(InvalidSuspects, Suspects, (Stack(),) * 6 + (idle_stack("abcdef"),), index=6)

    def test_too_many_modules(self):
        self.same(len(Suspects((idle_stack("abcde"), idle_stack("edcba"))).best_answers()), 5)
        self.same(len(Suspects((idle_stack("ab"), idle_stack("cd"), Stack(), idle_stack("e"))).best_answers()), 5)
        self.fails(InvalidSuspects, Suspects, (idle_stack("abcdef"),), index=0)
        self.fails(InvalidSuspects, Suspects, (Stack(), idle_stack("abcdef")), index=1)
        self.fails(InvalidSuspects, Suspects, (idle_stack("abc"), idle_stack("cde"), Stack(), idle_stack("af")), index=3)
        self.fails(InvalidSuspects, Suspects, (idle_stack("abc"), idle_stack("def")) + (Stack(),) * 6, index=1)
        self.fails(InvalidSuspects, Suspects, (Stack(),) * 5 + (idle_stack("abcdef"), Stack()), index=5)


class SeeTest(Case):
    def test_all_modules_have_to_answer(self):
        suspects = Suspects((Stack(PIN), Stack(KEY), Stack(Rule("lan", "optional"))))
        full = {"key": "yes", "lan": "no", "pin": "skip"}
        for answers, name in (({}, "key"), ({"pin": "yes"}, "key"), ({"key": "no", "pin": "yes"}, "lan"),
                              ({**full, "zoo": "yes"}, "zoo"), ({**full, "pin": "in"}, "pin"),
                              ({**full, "lan": None, "pin": 0}, "lan"), ({**full, "a": "yes"}, "a")):
            for word in ("in", "out", "maybe"):
                self.fails(InvalidAnswers, suspects.see, answers, word, name=name)
        self.same((suspects.see(full, "in"), suspects.remaining), (1, [1]))
        # Answers of the modules of stacks that are not left have to be told, too.
        self.fails(InvalidAnswers, suspects.see, {"key": "yes"}, "in", name="lan")
        self.same(suspects.see(full, "in"), 1)

    def test_wrong_words(self):
        suspects = Suspects(TWO)
        for word in ("", "IN", "open", "yes", None, True, 0, ("out",), ["in"]):
            self.fails(InvalidWord, suspects.see, {"key": "yes", "pin": "no"}, word)
        self.same((suspects.remaining, suspects.history), ([0, 1], []))

    def test_contradiction_changes_nothing(self):
        suspects = Suspects(TWO + (Stack(sure("key", "ok")),))
        self.same(suspects.see({"key": "gone", "pin": "skip"}, "out"), 2)
        before = (suspects.remaining, suspects.history) + told(suspects)
        self.fails(Contradiction, suspects.see, {"key": "gone", "pin": "skip"}, "in")
        self.fails(Contradiction, suspects.see, {"key": "yes", "pin": "yes"}, "out")
        self.fails(InvalidWord, suspects.see, {"key": "yes", "pin": "yes"}, "off")
        self.fails(InvalidAnswers, suspects.see, {"key": "yes"}, "off", name="pin")
        self.same((suspects.remaining, suspects.history) + told(suspects), before)
        self.same(before, ([0, 1], [({"key": "gone", "pin": "skip"}, "out")], [[0], [1]], {"key": "yes", "pin": "no"}, 1))

    def test_history(self):
        suspects = Suspects(TWO)
        rows = [({"key": "yes", "pin": "yes"}, "in"), ({"pin": "no", "key": "yes"}, "in"),
                ({"key": "yes", "pin": "yes"}, "in")]
        self.same([suspects.see(*row) for row in rows], [2, 1, 1])
        self.assertEqual(suspects.history, rows)
        self.same(suspects.remaining, [0])


class KeepingTest(Case):
    def test_what_is_handed_in_and_changed_later(self):
        stacks, answers = list(TWO), {"key": "yes", "pin": "yes"}
        suspects = Suspects(stacks)
        suspects.see(answers, "in")
        stacks[1] = Stack(KEY, PIN)
        stacks.append(Stack())
        answers["key"] = "no"
        self.same((suspects.remaining, suspects.groups()), ([0, 1], [[0], [1]]))
        self.same(suspects.history, [({"key": "yes", "pin": "yes"}, "in")])

    def test_each_reading_is_new(self):
        suspects = Suspects(TWO)
        suspects.see({"key": "yes", "pin": "yes"}, "in")

        def all_told():
            return [suspects.remaining, suspects.history, suspects.groups(), suspects.best_answers()]

        before = repr(all_told())
        for part in all_told():
            part.clear()
        suspects.history[0][0]["key"] = "no"
        suspects.groups()[0].clear()
        self.assertEqual(repr(all_told()), before)
        self.same(suspects.see({"key": "yes", "pin": "no"}, "in"), 1)

    def test_properties_cannot_be_assigned(self):
        for name in ("remaining", "history"):
            with self.assertRaises(AttributeError):
                setattr(Suspects(TWO), name, [])


class SearchTest(Case):
    def test_alike_stacks_with_other_modules(self):
        stacks = (Stack(PIN), Stack(KEY), Stack(Stack(PIN), *idle_stack("ab").entries), Stack(sure("c", "ok")),
                  Stack(KEY, *idle_stack("c").entries))
        suspects = Suspects(stacks)
        self.same(suspects.groups(), [[0, 2], [1, 4], [3]])
        self.same(suspects.see({"a": "yes", "b": "yes", "c": "no", "key": "no", "pin": "yes"}, "in"), 3)
        self.same((suspects.groups(), suspects.fewest_tests()), ([[0, 2], [3]], 1))

    def test_all_are_alike(self):
        suspects = Suspects((Stack(PIN, KEY), Stack(PIN, KEY), Stack(Stack(PIN, KEY))))
        self.same(told(suspects), ([[0, 1, 2]], {"key": "yes", "pin": "yes"}, 0))

    def test_first_of_the_best_answers(self):
        # These answers part one stack from two others, as many behind them do.
        suspects = Suspects((Stack(Rule("b", ONLY)), Stack(Rule("a", ONLY)), Stack(Rule("a", ONLY), Rule("b", ONLY))))
        self.same(told(suspects), ([[0], [1], [2]], {"a": "yes", "b": "no"}, 2))

    def test_best_answers_part_in_the_middle(self):
        stacks = [Stack(Rule("a", tuple("ok" if at <= last else "ignore" for at in range(4)))) for last in range(3)]
        suspects = Suspects((*stacks, Stack(sure("a", "ok"))))
        self.same(told(suspects), ([[0], [1], [2], [3]], {"a": "skip"}, 2))

    def test_beside_a_plain_search(self):
        rng = random.Random(23)
        for _ in range(80):
            base = plain.random_stack(rng, MODULES[:4], 5)
            stacks = [self.variant(rng, base) for _ in range(rng.randint(1, 6))]
            suspects, other = Suspects(tuple(stacks)), PlainSuspects(stacks)
            self.same(told(suspects), told(other))
            for _ in range(2):
                self.check_sight(suspects, other, rng)

    def variant(self, rng, base):
        if rng.random() < 0.4:
            return plain.random_stack(rng, MODULES[:4], 5)
        if base.rules and rng.random() < 0.7:
            return base.without((rng.randrange(len(base.rules)),))
        return base

    def check_sight(self, suspects, other, rng):
        at = rng.randrange(len(other.rows))
        word = rng.choice(("in", "out"))
        left = [index for index in other.left if other.words[index][at] == word]
        if not left:
            self.fails(Contradiction, suspects.see, other.rows[at], word)
        else:
            other.left = left
            self.same(suspects.see(other.rows[at], word), len(left))
        self.same((suspects.remaining,) + told(suspects), (other.left,) + told(other))

    def test_five_modules(self):
        rng = random.Random(24)
        for _ in range(3):
            stacks = [plain.random_stack(rng, MODULES[:5], 8) for _ in range(6)]
            self.same(told(Suspects(tuple(stacks))), told(PlainSuspects(stacks)))


if __name__ == "__main__":
    unittest.main()
