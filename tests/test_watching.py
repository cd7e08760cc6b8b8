"""Point 14: what a watcher sees and learns."""

import random
import unittest

from loginstacks.errors import InvalidAnswers, InvalidMode, UnknownView
from loginstacks.rules import Rule
from loginstacks.stacks import Stack
from loginstacks.watching import could_be, seen, telling, views
from tests import plain
from tests.support import Case, IGNORE, MODULES, idle_stack, sure

MODES = ("outcome", "count", "rules")
WRONG_MODES = ("", "Count", "rule", "in", None, 0, True, (), ("count",), ["count"])
PIN_KEY = Stack(Rule("pin", "requisite"), Rule("key", "required"))


def plain_view(stack, answers, mode):
    word, asked, _ = plain.told(stack, answers)
    return {"outcome": (word,), "count": (word, len(asked)), "rules": (word, tuple(asked))}[mode]


def rows_with(stack, view, mode):
    return [row for row in plain.all_answers(stack.modules) if plain_view(stack, row, mode) == view]


def plain_views(stack, mode):
    found = []
    for row in plain.all_answers(stack.modules):
        if plain_view(stack, row, mode) not in found:
            found.append(plain_view(stack, row, mode))
    return found


def plain_telling(stack, mode):
    found = []
    refused = [view for view in plain_views(stack, mode) if view[0] == "out"]
    rows = [[row for row in rows_with(stack, view, mode)] for view in refused]
    for module in stack.modules:
        yes = [len([row for row in part if row[module] == "yes"]) for part in rows]
        whole = [len(part) for part in rows]
        if 0 < sum(yes) < sum(whole) and any(many in (0, all_of) for many, all_of in zip(yes, whole)):
            found.append(module)
    return found


def some_stacks(seed, many):
    rng = random.Random(seed)
    return [make(rng, MODULES[:3]) for make in (plain.random_stack, plain.random_word_stack) for _ in range(many)]


class SeenTest(Case):
    def test_example(self):
        self.same([seen(PIN_KEY, {"pin": "no", "key": "yes"}, "rules"), views(PIN_KEY, "count"),
                   could_be(PIN_KEY, ("out", (0,))), telling(PIN_KEY, "rules"), telling(PIN_KEY, "outcome")],
                  [("out", (0,)), [("in", 2), ("out", 1), ("out", 2)],
                   {"key": ("yes", "no", "skip", "gone"), "pin": ("no", "gone")}, ["key", "pin"], []])

    def test_three_modes(self):
        stack = Stack(Rule("a", (1, "ok", "ok", "ok")), Stack(Rule("b", "required"), Rule("b", "optional")),
                      Rule("a", "sufficient"), Rule("b", IGNORE))
        answers = {"a": "yes", "b": "no"}
        self.same([seen(stack, answers, mode) for mode in MODES], [("in",), ("in", 2), ("in", (0, 3))])
        answers = {"a": "gone", "b": "no"}
        self.same([seen(stack, answers, mode) for mode in MODES], [("out",), ("out", 5), ("out", (0, 1, 2, 3, 4))])

    def test_a_module_that_is_asked_twice_counts_twice(self):
        stack = Stack(sure("a", "ok"), sure("a", "ok"), sure("a", "die"), sure("a", "ok"))
        self.same([seen(stack, {"a": "no"}, mode) for mode in MODES], [("out",), ("out", 3), ("out", (0, 1, 2))])

    def test_wrong_answers(self):
        rows = [({}, "key"), ({"key": "yes"}, "pin"), ({"key": "yes", "pin": "no", "box": "no"}, "box"),
                ({"pin": "ok", "zoo": "yes", "key": "no"}, "pin"), ({"key": None, "pin": True}, "key")]
        for answers, name in rows:
            for mode in MODES + WRONG_MODES:
                self.fails(InvalidAnswers, seen, PIN_KEY, answers, mode, name=name)
        self.fails(InvalidAnswers, seen, Stack(), {"pin": "yes"}, "outcome", name="pin")

    def test_wrong_modes(self):
        for mode in WRONG_MODES:
            self.fails(InvalidMode, seen, PIN_KEY, {"key": "yes", "pin": "no"}, mode)
            self.fails(InvalidMode, seen, Stack(), {}, mode)
            for call in (views, telling):
                self.fails(InvalidMode, call, PIN_KEY, mode)
                self.fails(InvalidMode, call, Stack(), mode)

    def test_empty_stack(self):
        for stack in (Stack(), Stack(Stack(), Stack())):
            found = [("out",), ("out", 0), ("out", ())]
            self.same([seen(stack, {}, mode) for mode in MODES], found)
            self.same([views(stack, mode) for mode in MODES], [[view] for view in found])
            self.same([could_be(stack, view) for view in found], [{}, {}, {}])
            self.same([telling(stack, mode) for mode in MODES], [[], [], []])
            for view in (("in",), ("in", 0), ("in", ()), ("out", 1), ("out", (0,))):
                self.fails(UnknownView, could_be, stack, view)


class ViewsTest(Case):
    def test_order_of_the_first_answers(self):
        stack = Stack(Rule("a", ("bad", "done", "ignore", "die")), Rule("a", ("ignore", "ok", "ok", "ok")))
        self.same(views(stack, "outcome"), [("out",), ("in",)])
        self.same(views(stack, "count"), [("out", 2), ("in", 1), ("in", 2), ("out", 1)])
        self.same(views(stack, "rules"), [("out", (0, 1)), ("in", (0,)), ("in", (0, 1)), ("out", (0,))])

    def test_the_first_module_in_order_counts_first(self):
        stack = Stack(Rule("b", (1, "ok", "ok", "ok")), Rule("a", ("ok", "bad", "bad", "bad")))
        self.same(views(stack, "rules"), [("out", (0,)), ("in", (0, 1)), ("out", (0, 1))])

    def test_beside_a_plain_search(self):
        for stack in some_stacks(141, 60):
            for mode in MODES:
                self.same(views(stack, mode), plain_views(stack, mode))
                for row in plain.all_answers(stack.modules)[::7]:
                    self.same(seen(stack, row, mode), plain_view(stack, row, mode))


class CouldBeTest(Case):
    def test_views_of_each_mode(self):
        stack = Stack(Rule("b", "requisite"), Rule("a", "sufficient"), Rule("b", IGNORE))
        self.same(could_be(stack, ("out",)), {"a": ("yes", "no", "skip", "gone"), "b": ("no", "skip", "gone")})
        self.same(could_be(stack, ("out", 1)), {"a": ("yes", "no", "skip", "gone"), "b": ("no", "gone")})
        self.same(could_be(stack, ("out", 3)), {"a": ("no", "skip", "gone"), "b": ("skip",)})
        self.same(could_be(stack, ("out", (0, 1, 2))), {"a": ("no", "skip", "gone"), "b": ("skip",)})
        self.same(could_be(stack, ("in", (0, 1))), {"a": ("yes",), "b": ("yes", "skip")})
        self.same(could_be(stack, ("in", 3)), {"a": ("no", "skip", "gone"), "b": ("yes",)})

    def test_unknown_views(self):
        rows = [("in", 1), ("in", (0,)), ("out", 0), ("out", ()), ("out", 3), ("out", (1,)), ("out", (1, 0)), ("yes",),
                (), ("in", (0, 1), 2), ("in", "rules"), ("in", None), ("out", -1), ("out", (0, 1, 1)), ("out", ("0",))]
        for view in rows:
            self.fails(UnknownView, could_be, PIN_KEY, view)
        for view in (("in",), ("in", 0), ("in", ())):
            self.fails(UnknownView, could_be, idle_stack("ab"), view)

    def test_a_boolean_is_no_number(self):
        self.same(could_be(PIN_KEY, ("out", 1))["pin"], ("no", "gone"))
        for view in (("out", True), ("out", (False,)), ("in", (False, True)), ("in", (0, True))):
            self.fails(UnknownView, could_be, PIN_KEY, view)
        self.fails(UnknownView, could_be, Stack(), ("out", False))

    def test_beside_a_plain_search(self):
        for stack in some_stacks(142, 40):
            for mode in MODES:
                for view in plain_views(stack, mode):
                    rows = rows_with(stack, view, mode)
                    told = {name: {row[name] for row in rows} for name in stack.modules}
                    wanted = {name: tuple(one for one in plain.RESULTS if one in told[name]) for name in stack.modules}
                    self.same(could_be(stack, view), wanted)


class TellingTest(Case):
    def test_the_modes_apart(self):
        # The count tells of "pin", and with it of "key"; the mere outcome tells of none.
        self.same([telling(PIN_KEY, mode) for mode in MODES], [[], ["key", "pin"], ["key", "pin"]])
        # Two refusals have the same count, but not the same rules.
        stack = Stack(Rule("a", (1, "ignore", "ignore", "ignore")), sure("b", 1), Rule("b", IGNORE), sure("b", "bad"))
        self.same([views(stack, mode) for mode in MODES[1:]], [[("out", 3)], [("out", (0, 2, 3)), ("out", (0, 1, 3))]])
        self.same([telling(stack, mode) for mode in MODES], [[], [], ["a"]])

    def test_all_tell_yes_or_none_of_them(self):
        stack = Stack(Rule("a", ("die", "bad", "bad", "bad")), Rule("b", IGNORE))
        self.same([telling(stack, mode) for mode in MODES], [[], ["a"], ["a"]])
        stack = Stack(Rule("a", ("die", "die", "bad", "bad")), Rule("b", IGNORE))
        self.same([telling(stack, mode) for mode in MODES], [[], ["a"], ["a"]])

    def test_views_of_those_let_in_do_not_count(self):
        stack = Stack(Rule("a", (1, "ignore", "ignore", "ignore")), sure("b", "ok"))
        self.same([telling(stack, mode) for mode in MODES], [[], [], []])
        stack = Stack(Rule("a", ("done", "ignore", "ignore", "ignore")), Rule("b", (1, "bad", "bad", "bad")))
        self.same([telling(stack, mode) for mode in MODES], [[], [], []])

    def test_who_never_or_always_tells_yes_to_the_refused_gives_nothing_away(self):
        # Of those who are refused, "a" always tells "yes", and "b" never.
        stack = Stack(Rule("a", ("ignore", "done", "done", "done")), Rule("b", ("done", "die", "bad", "bad")),
                      Rule("b", IGNORE))
        self.same(views(stack, "count"), [("in", 2), ("out", 2), ("out", 3), ("in", 1)])
        self.same([telling(stack, mode) for mode in MODES], [[], [], []])

    def test_beside_a_plain_search(self):
        many = 0
        for stack in some_stacks(143, 70):
            for mode in MODES:
                self.same(telling(stack, mode), plain_telling(stack, mode))
            many += telling(stack, "count") != telling(stack, "rules")
        self.assertGreater(many, 2)


if __name__ == "__main__":
    unittest.main()
