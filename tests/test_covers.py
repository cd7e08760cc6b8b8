"""Point 27: covers."""

import random
import unittest
from itertools import permutations, product

from loginstacks.covers import cover, cover_text, shortest_cover
from loginstacks.errors import TooMany
from loginstacks.rules import Rule
from loginstacks.stacks import Stack
from tests import plain
from tests.support import Case, MODULES, idle_stack, sure

KEY, PIN = Rule("key", "sufficient"), Rule("pin", "required")


class PlainCover:
    """The cover of a stack, if its modules are taken in some order, by a plain search."""

    def __init__(self, stack, order=None):
        self.order = order or stack.modules
        self.words = {tuple(row[name] for name in self.order): plain.word(stack, row)
                      for row in plain.all_answers(stack.modules)}

    def settled(self, results):
        """All words to which what begins with these results leads."""
        return {word for row, word in self.words.items() if row[:len(results)] == results}

    def rows(self):
        found = []
        for many in range(len(self.order) + 1):
            for results in product(plain.RESULTS, repeat=many):
                begun = any(results[:len(shorter)] == shorter for shorter, _ in found)
                if not begun and len(self.settled(results)) == 1:
                    found.append((results, *self.settled(results)))
        return sorted(found, key=lambda row: [plain.RESULTS.index(result) for result in row[0]])


def plain_text(rows):
    return "\n".join((" ".join(results) or "-") + ": " + word for results, word in rows)


def plain_shortest(stack):
    numbers = [(len(PlainCover(stack, order).rows()), order) for order in permutations(stack.modules)]
    return min(numbers)


class ExamplesTest(Case):
    def test_example(self):
        self.same([cover_text(Stack(PIN)), cover(Stack(KEY, PIN))[:3], shortest_cover(Stack(KEY, PIN)),
                   cover_text(Stack())],
                  ["yes: in\nno: out\nskip: out\ngone: out",
                   [(("yes",), "in"), (("no", "yes"), "in"), (("no", "no"), "out")], (13, ("key", "pin")), "-: out"])


class CoverTest(Case):
    def test_nothing_has_to_be_known(self):
        for stack, word in ((Stack(), "out"), (Stack(Stack()), "out"), (idle_stack("abcdef"), "out"),
                            (Stack(sure("a", "ok")), "in"), (Stack(sure("a", "die"), PIN, KEY), "out")):
            self.same((cover(stack), cover_text(stack)), ([((), word)], f"-: {word}"))

    def test_modules_in_ascending_order(self):
        stack = Stack(PIN, KEY)
        rows = cover(stack)
        self.same(rows[:4], [(("yes", "yes"), "in"), (("yes", "no"), "out"), (("yes", "skip"), "in"), (("yes", "gone"), "out")])
        self.same((len(rows), rows[4:6]), (16, [(("no", "yes"), "in"), (("no", "no"), "out")]))

    def test_a_first_module_that_does_not_count(self):
        rows = cover(Stack(Rule("b", "required"), *idle_stack("a").entries))
        self.same([results for results, _ in rows], list(product(plain.RESULTS, repeat=2)))
        rows = cover(Stack(Rule("a", "required"), *idle_stack("b").entries))
        self.same(rows, [(("yes",), "in"), (("no",), "out"), (("skip",), "out"), (("gone",), "out")])

    def test_text(self):
        stack = Stack(Rule("a", ("die", "done", "ignore", "ignore")), Rule("b", ("ok", "bad", "bad", "bad")))
        self.same(cover_text(stack), "\n".join([
            "yes: out", "no: in", "skip yes: in", "skip no: out", "skip skip: out", "skip gone: out",
            "gone yes: in", "gone no: out", "gone skip: out", "gone gone: out"]))

    def test_six_modules(self):
        stack = Stack(*[Rule(name, ("ok", "die", "die", "die")) for name in "abcdef"])
        self.same((len(cover(stack)), cover(stack)[0]), (19, (("yes",) * 6, "in")))
        stack = Stack(*[Rule(name, ("ok", "bad", "ignore", "bad")) for name in "fedcba"])
        self.same(len(cover_text(stack).split("\n")), len(cover(stack)))

    def test_beside_a_plain_search(self):
        rng = random.Random(27)
        for make in (plain.random_stack, plain.random_word_stack):
            for _ in range(60):
                stack = make(rng, MODULES[:4])
                rows = PlainCover(stack).rows()
                self.same(cover(stack), rows)
                self.same(cover_text(stack), plain_text(rows))


class ShortestCoverTest(Case):
    def test_nothing_has_to_be_known(self):
        self.same(shortest_cover(Stack()), (1, ()))
        self.same(shortest_cover(Stack(Stack(), Stack(Stack()))), (1, ()))
        self.same(shortest_cover(idle_stack("dbca")), (1, ("a", "b", "c", "d")))

    def test_the_order_is_not_the_ascending_one(self):
        self.same(shortest_cover(Stack(Rule("b", "required"), *idle_stack("a").entries)), (4, ("b", "a")))
        stack = Stack(*[Rule(name, ("ok", "die", "die", "die")) for name in "dc"], Rule("a", "optional"))
        self.same(shortest_cover(stack), (7, ("c", "d", "a")))

    def test_first_of_several_orders(self):
        stack = Stack(*[Rule(name, ("ok", "die", "die", "die")) for name in "cdba"])
        self.same(shortest_cover(stack), (13, ("a", "b", "c", "d")))

    def test_four_and_five_modules(self):
        self.same(shortest_cover(Stack(*[Rule(name, "sufficient") for name in "dcba"])), (121, ("a", "b", "c", "d")))
        for stack in (idle_stack("abcde"), idle_stack("abcdef"), Stack(sure("a", "die"), *idle_stack("bcde").entries)):
            self.fails(TooMany, shortest_cover, stack)
            self.same((cover(stack), cover_text(stack)), ([((), "out")], "-: out"))

    def test_beside_all_orders(self):
        rng = random.Random(28)
        others = 0
        for make in (plain.random_stack, plain.random_word_stack):
            for _ in range(25):
                stack = make(rng, MODULES[:3])
                self.same(shortest_cover(stack), plain_shortest(stack))
                others += shortest_cover(stack)[1] != stack.modules
        self.assertGreater(others, 5)

    def test_four_modules_beside_all_orders(self):
        rng = random.Random(29)
        for _ in range(2):
            stack = plain.random_stack(rng, MODULES[:4], 7)
            self.same(shortest_cover(stack), plain_shortest(stack))


class CallsTest(Case):
    def test_what_is_returned_may_be_changed(self):
        stack = Stack(KEY, PIN)
        before = repr(cover(stack))
        cover(stack).clear()
        self.assertEqual(repr(cover(stack)), before)


if __name__ == "__main__":
    unittest.main()
