"""Point 9: two stacks beside one another."""

import random
import unittest

from loginstacks.comparing import alike, first_difference, is_stricter
from loginstacks.errors import TooMany
from loginstacks.rules import Rule
from loginstacks.stacks import Stack
from tests import plain
from tests.support import Case, IGNORE, MODULES, idle_stack, sure

KEY_OR_PIN = Stack(Rule("key", "sufficient"), Rule("pin", "required"))
PIN_OR_KEY = Stack(Rule("pin", "required"), Rule("key", "sufficient"))


class ComparingTest(Case):
    def test_example(self):
        self.same([alike(KEY_OR_PIN, PIN_OR_KEY), first_difference(KEY_OR_PIN, PIN_OR_KEY),
                   is_stricter(KEY_OR_PIN, PIN_OR_KEY), is_stricter(PIN_OR_KEY, KEY_OR_PIN)],
                  [False, ({"key": "yes", "pin": "no"}, "in"), False, True])

    def test_the_word_is_that_of_the_first_stack(self):
        self.same(first_difference(PIN_OR_KEY, KEY_OR_PIN), ({"key": "yes", "pin": "no"}, "out"))

    def test_alike(self):
        for one, other in ((KEY_OR_PIN, KEY_OR_PIN), (KEY_OR_PIN, Stack(KEY_OR_PIN)), (Stack(), Stack(Stack())),
                           (Stack(), idle_stack("ab")), (KEY_OR_PIN, KEY_OR_PIN + idle_stack("abcd")),
                           (Stack(sure("a", "ok")), Stack(sure("b", "ok")))):
            self.same((alike(one, other), first_difference(one, other)), (True, None))
            self.same((is_stricter(one, other), is_stricter(other, one)), (True, True))

    def test_no_modules_in_common(self):
        one, other = Stack(Rule("b", "required")), Stack(Rule("a", "required"))
        self.same(first_difference(one, other), ({"a": "yes", "b": "no"}, "out"))
        self.same((alike(one, other), is_stricter(one, other), is_stricter(other, one)), (False, False, False))

    def test_some_modules_in_common(self):
        one, other = Stack(Rule("b", "required"), Rule("c", "required")), Stack(Rule("c", "required"))
        self.same(first_difference(one, other), ({"b": "yes", "c": "skip"}, "in"))
        lax = Stack(Rule("c", "sufficient"), Rule("a", "sufficient"))
        strict = Stack(Rule("c", "requisite"), Rule("b", "requisite"), Rule("a", "requisite"))
        self.same(first_difference(lax, strict), ({"a": "yes", "b": "yes", "c": "no"}, "in"))
        self.same((is_stricter(strict, lax), is_stricter(lax, strict)), (False, False))

    def test_modules_that_one_stack_does_not_have(self):
        one, other = Stack(sure("b", "ok")), Stack(Rule("b", ("ok", "ok", "ok", "ok")), Rule("a", "required"))
        self.same(first_difference(one, other), ({"a": "no", "b": "yes"}, "in"))
        self.same((is_stricter(one, other), is_stricter(other, one)), (False, True))

    def test_nobody_is_let_in(self):
        for stack in (KEY_OR_PIN, Stack(sure("a", "ok"))):
            self.same((is_stricter(Stack(), stack), is_stricter(stack, Stack())), (True, False))

    def test_six_and_seven_modules(self):
        six = [(idle_stack("abcdef"), idle_stack("abcdef")), (idle_stack("abcdef"), Stack()),
               (idle_stack("abc"), idle_stack("def")), (idle_stack("abcd"), idle_stack("bcdef"))]
        for one, other in six:
            self.same((alike(one, other), is_stricter(one, other), first_difference(one, other)), (True, True, None))
        seven = [(idle_stack("abcdef"), idle_stack("g")), (idle_stack("g"), idle_stack("abcdef")),
                 (idle_stack("abcd"), idle_stack("defg")), (idle_stack("abcdef"), idle_stack("bcdefg")),
                 (idle_stack("abcdef"), idle_stack("ghijkl"))]
        for one, other in seven:
            for call in (alike, is_stricter, first_difference):
                self.fails(TooMany, call, one, other)

    def test_too_many_even_if_a_difference_is_plain(self):
        one = Stack(sure("a", "ok"), Rule("b", IGNORE), Rule("c", IGNORE), Rule("d", IGNORE))
        for call in (alike, is_stricter, first_difference):
            self.fails(TooMany, call, one, idle_stack("efg"))

    def test_beside_a_plain_search(self):
        rng = random.Random(9)
        for _ in range(150):
            one = plain.random_stack(rng, rng.sample(MODULES[:4], 3), 4)
            other = plain.random_stack(rng, rng.sample(MODULES[:4], 3), 4)
            if rng.random() < 0.5:
                other = one.without((rng.randrange(len(one.rules)),)) if one.rules else one
            self.check(one, other)

    def check(self, one, other):
        rows = plain.parting(one, other)
        self.same(alike(one, other), rows == [])
        self.same(first_difference(one, other), (rows[0], plain.word(one, rows[0])) if rows else None)
        self.same(is_stricter(one, other), all(plain.word(one, row) == "out" for row in rows))
        self.same(is_stricter(other, one), all(plain.word(other, row) == "out" for row in rows))


if __name__ == "__main__":
    unittest.main()
