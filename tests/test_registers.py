"""Point 25: registers."""

import random
import unittest

from loginstacks.errors import (InvalidAnswers, InvalidName, InvalidPlace, InvalidRule, InvalidStack, InvalidWord,
                                PromiseBroken, StackError, TooMany, UnknownName, UnknownRule)
from loginstacks.registers import Register
from loginstacks.rules import Rule
from loginstacks.stacks import Stack
from tests import plain
from tests.support import Case, MODULES, idle, idle_stack, sure

KEY, CARD, PIN = Rule("key", "sufficient"), Rule("card", "sufficient"), Rule("pin", "required")
NO_NUMBERS = (True, False, -1, -3)


def state(desk):
    """All that a desk tells."""
    return (plain.written(desk.stack()), desk.stored, desk.promises, len(desk.history))


def differing(one, other):
    return len(plain.parting(one, other))


class RegisterCase(Case):
    def refuses(self, desk, error, call, *arguments, **attributes):
        """Checks that a call raises an error and changes nothing, not even what can be undone or redone."""
        before = state(desk)
        self.fails(error, call, *arguments, **attributes)
        self.same(state(desk), before)


class ExamplesTest(RegisterCase):
    def test_example(self):
        desk = Register(Stack(PIN))
        told = desk.apply_all([("put", 0, KEY), ("promise", {"pin": "yes"}, "in"), ("swap", 0), ("turn", 0, "optional")])
        self.same([told, desk.undo(), desk.promises, desk.stack()[0].kind, len(desk.history), desk.redo(),
                   desk.stack()[0].kind],
                  [[3, 1, 2, 2], True, [({"pin": "yes"}, "in")], "required", 3, True, "optional"])

    def test_example_error(self):
        self.fails(PromiseBroken, Register(Stack(PIN)).promise, {"pin": "no"}, "in", index=0)


class NewTest(RegisterCase):
    def test_nothing_is_there_at_first(self):
        stack = Stack(KEY, Stack(PIN))
        desk = Register(stack)
        self.assertEqual(desk.stack(), stack)
        self.same((desk.stored, desk.promises, desk.history), ([], [], []))
        self.same((desk.undo(), desk.redo()), (False, False))


class PutTest(RegisterCase):
    def test_first_and_last_index(self):
        for index, wanted in ((0, Stack(CARD, KEY, PIN)), (1, Stack(KEY, CARD, PIN)), (2, Stack(KEY, PIN, CARD))):
            desk = Register(Stack(KEY, PIN))
            self.same(desk.put(index, CARD), differing(Stack(KEY, PIN), wanted))
            self.assertEqual(desk.stack(), wanted)
            self.assertEqual(desk.history, [("put", index, CARD)])

    def test_into_the_empty_stack(self):
        desk = Register(Stack())
        self.same((desk.put(0, Stack(PIN)), desk.put(1, Stack())), (1, 0))
        self.assertEqual(desk.stack(), Stack(Stack(PIN), Stack()))

    def test_new_modules_count(self):
        # The answers are those of both stacks' modules.
        desk = Register(idle_stack("ab"))
        self.same(desk.put(0, PIN), 4 * 4)
        self.same(desk.put(0, sure("lan", "bad")), 4 * 4 * 4)
        self.same(desk.take(0), 4 * 4 * 4)

    def test_no_such_place(self):
        desk = Register(Stack(KEY, PIN))
        for index in (3, 99) + NO_NUMBERS:
            self.refuses(desk, InvalidPlace, desk.put, index, CARD)
            self.refuses(desk, InvalidPlace, desk.put, index, None)

    def test_no_stack_then(self):
        desk = Register(Stack(KEY, PIN))
        self.refuses(desk, InvalidStack, desk.put, 1, None, index=1)
        self.refuses(desk, InvalidStack, desk.put, 2, "pin", index=2)
        self.refuses(desk, InvalidStack, desk.put, 0, Stack(Stack(Stack())), index=0)
        full, six = Register(Stack(*idle(12))), Register(idle_stack("abcdef"))
        self.refuses(full, InvalidStack, full.put, 0, PIN, index=12)
        self.refuses(full, InvalidStack, full.put, 12, PIN, index=12)
        self.refuses(six, InvalidStack, six.put, 0, PIN, index=6)

    def test_promise_is_checked_last(self):
        desk = Register(Stack(PIN))
        desk.promise({"pin": "no"}, "out")
        self.refuses(desk, InvalidPlace, desk.put, 2, KEY)
        self.refuses(desk, InvalidStack, desk.put, 0, None, index=0)
        self.refuses(desk, PromiseBroken, desk.put, 0, KEY, index=0)
        self.same(desk.put(1, KEY), differing(Stack(PIN), Stack(PIN, KEY)))


class TakeTest(RegisterCase):
    def test_first_and_last_index(self):
        stack = Stack(KEY, Stack(CARD), PIN)
        for index in range(3):
            desk, wanted = Register(stack), stack.spliced(index, 1, ())
            self.same(desk.take(index), differing(stack, wanted))
            self.assertEqual(desk.stack(), wanted)
            self.same(desk.history, [("take", index)])

    def test_the_last_entry(self):
        desk = Register(Stack(PIN))
        self.same(desk.take(0), 1)
        self.assertEqual(desk.stack(), Stack())
        self.refuses(desk, InvalidPlace, desk.take, 0)

    def test_no_such_place(self):
        desk = Register(Stack(KEY, Stack(CARD, CARD)))
        for index in (2, 99) + NO_NUMBERS:
            self.refuses(desk, InvalidPlace, desk.take, index)

    def test_promise_is_checked_last(self):
        desk = Register(Stack(KEY, PIN))
        desk.promise({"key": "yes"}, "in")
        self.refuses(desk, InvalidPlace, desk.take, 2)
        self.refuses(desk, PromiseBroken, desk.take, 0, index=0)


class SwapTest(RegisterCase):
    def test_first_and_last_index(self):
        stack = Stack(KEY, Stack(CARD), PIN)
        for index, wanted in ((0, Stack(Stack(CARD), KEY, PIN)), (1, Stack(KEY, PIN, Stack(CARD)))):
            desk = Register(stack)
            self.same(desk.swap(index), differing(stack, wanted))
            self.assertEqual(desk.stack(), wanted)
            self.same(desk.history, [("swap", index)])

    def test_no_such_place(self):
        desk = Register(Stack(KEY, Stack(CARD), PIN))
        for index in (2, 3, 99) + NO_NUMBERS:
            self.refuses(desk, InvalidPlace, desk.swap, index)
        for few in (Stack(), Stack(PIN)):
            self.refuses(Register(few), InvalidPlace, Register(few).swap, 0)

    def test_promise_is_checked_last(self):
        desk = Register(Stack(KEY, PIN))
        desk.promise({"key": "yes"}, "in")
        self.refuses(desk, InvalidPlace, desk.swap, 1)
        self.refuses(desk, PromiseBroken, desk.swap, 0, index=0)


class TurnTest(RegisterCase):
    STACK = Stack(Stack(), KEY, Stack(CARD, Stack(PIN, KEY)), PIN)

    def test_each_number(self):
        for number, wanted in enumerate((
                Stack(Stack(), Rule("key", "required"), Stack(CARD, Stack(PIN, KEY)), PIN),
                Stack(Stack(), KEY, Stack(Rule("card", "required"), Stack(PIN, KEY)), PIN),
                Stack(Stack(), KEY, Stack(CARD, Stack(Rule("pin", "required"), KEY)), PIN),
                Stack(Stack(), KEY, Stack(CARD, Stack(PIN, Rule("key", "required"))), PIN),
                Stack(Stack(), KEY, Stack(CARD, Stack(PIN, KEY)), Rule("pin", "required")))):
            desk = Register(self.STACK)
            self.same(desk.turn(number, "required"), differing(self.STACK, wanted))
            self.assertEqual(desk.stack(), wanted)
            self.same(desk.history, [("turn", number, "required")])

    def test_to_four_actions(self):
        desk = Register(Stack(PIN))
        self.same(desk.turn(0, ("ok", "ok", 3, "reset")), 1)
        self.assertEqual(desk.stack(), Stack(Rule("pin", ("ok", "ok", 3, "reset"))))
        self.same(desk.history, [("turn", 0, ("ok", "ok", 3, "reset"))])

    def test_unknown_rule_ahead_of_invalid_rule(self):
        desk = Register(self.STACK)
        for number in (5, 99, None) + NO_NUMBERS:
            for control in ("optional", "none"):
                self.refuses(desk, UnknownRule, desk.turn, number, control, index=0)
        for control in ("none", "", None, ("ok", "ok", "ok"), ("ok", "ok", "ok", 0), ("ok", "ok", "ok", True), 1):
            self.refuses(desk, InvalidRule, desk.turn, 3, control, part="control")
        self.refuses(Register(Stack()), UnknownRule, Register(Stack()).turn, 0, "none", index=0)

    def test_promise_is_checked_last(self):
        desk = Register(Stack(KEY, PIN))
        desk.promise({"key": "yes"}, "in")
        self.refuses(desk, UnknownRule, desk.turn, 2, "none", index=0)
        self.refuses(desk, InvalidRule, desk.turn, 0, "none", part="control")
        self.refuses(desk, PromiseBroken, desk.turn, 0, "optional", index=0)


class TooManyTest(RegisterCase):
    def test_modules_of_both_stacks(self):
        class Odd(Stack):
            """A stand-in: no operation on a real stack leads to one with which there are more than six modules."""

            def spliced(self, index, count, entries):
                return Stack(sure("g", "die"), *idle_stack("bcdef").entries)

        desk = Register(Odd(*idle_stack("abcdef").entries))
        for call, arguments in ((desk.put, (0, PIN)), (desk.take, (0,)), (desk.swap, (0,))):
            self.refuses(desk, TooMany, call, *arguments)
        # The promise would be broken, but this is checked later.
        desk = Register(Odd(sure("a", "ok"), *idle_stack("bcdef").entries))
        desk.promise({}, "in")
        self.refuses(desk, TooMany, desk.take, 0)


class PromiseTest(RegisterCase):
    def test_number_of_promises(self):
        desk = Register(Stack(KEY, PIN))
        rows = [({"key": "yes"}, "in"), ({"pin": "no", "key": "no"}, "out"), ({"pin": "yes"}, "in"), ({"key": "yes"}, "in")]
        self.same([desk.promise(*row) for row in rows], [1, 2, 3, 4])
        self.assertEqual(desk.promises, rows)
        self.assertEqual(desk.history, [("promise", *row) for row in rows])
        self.same(Register(Stack()).promise({}, "out"), 1)

    def test_wrong_answers_ahead_of_wrong_words(self):
        desk = Register(Stack(KEY, PIN))
        for known, name in (({"card": "yes"}, "card"), ({"pin": "maybe"}, "pin"), ({"pin": None, "key": 1}, "key"),
                            ({"pin": "yes", "zoo": "yes"}, "zoo"), ({"pin": "in"}, "pin"), ({"a": "yes"}, "a")):
            for word in ("in", "off"):
                self.refuses(desk, InvalidAnswers, desk.promise, known, word, name=name)

    def test_wrong_words_ahead_of_broken_promises(self):
        desk = Register(Stack(KEY, PIN))
        for word in ("open", "", None, True, 1, ("in",)):
            self.refuses(desk, InvalidWord, desk.promise, {"key": "no"}, word)

    def test_the_promise_that_is_not_so(self):
        desk = Register(Stack(KEY, PIN))
        self.refuses(desk, PromiseBroken, desk.promise, {"key": "yes"}, "out", index=0)
        self.refuses(desk, PromiseBroken, desk.promise, {"pin": "no"}, "out", index=0)
        desk.promise({"key": "yes"}, "in")
        desk.promise({"pin": "yes"}, "in")
        self.refuses(desk, PromiseBroken, desk.promise, {"pin": "no"}, "out", index=2)
        self.refuses(desk, PromiseBroken, desk.promise, {}, "in", index=2)
        self.same(len(desk.promises), 2)

    def test_the_first_broken_promise(self):
        desk = Register(Stack(KEY, PIN))
        desk.promise({"pin": "yes"}, "in")
        desk.promise({"key": "yes"}, "in")
        desk.promise({"key": "no", "pin": "no"}, "out")
        self.refuses(desk, PromiseBroken, desk.swap, 0, index=1)
        self.refuses(desk, PromiseBroken, desk.take, 1, index=0)
        self.refuses(desk, PromiseBroken, desk.put, 2, sure("lan", "die"), index=0)
        self.refuses(desk, PromiseBroken, desk.turn, 1, ("ok", "ok", "ok", "ok"), index=2)

    def test_modules_that_the_stack_has_no_more(self):
        desk = Register(Stack(Rule("lan", "optional"), KEY, PIN))
        desk.promise({"key": "yes", "lan": "no"}, "in")
        desk.promise({"lan": "yes", "key": "no", "pin": "yes"}, "in")
        # What "lan" tells does not count any more, and the rest is enough.
        desk.take(0)
        self.same(desk.promises, [({"key": "yes", "lan": "no"}, "in"), ({"lan": "yes", "key": "no", "pin": "yes"}, "in")])
        # It counts again once the module is back.
        self.refuses(desk, PromiseBroken, desk.put, 0, Rule("lan", ("die", "ignore", "ignore", "ignore")), index=1)
        self.refuses(desk, PromiseBroken, desk.put, 0, Rule("lan", ("ignore", "die", "ignore", "ignore")), index=0)
        desk.put(0, Rule("lan", ("ignore", "ignore", "ignore", "die")))
        self.same(len(desk.promises), 2)

    def test_nothing_that_is_known_is_left(self):
        desk = Register(Stack(PIN, Rule("lan", "optional")))
        desk.promise({"pin": "no"}, "out")
        self.refuses(desk, PromiseBroken, desk.take, 0, index=0)
        desk.turn(1, ("ignore",) * 4)
        self.same(desk.take(0), 4)
        self.same(desk.promises, [({"pin": "no"}, "out")])

    def test_a_new_module_is_not_known(self):
        desk = Register(Stack(KEY, PIN))
        desk.promise({"key": "yes", "pin": "yes"}, "in")
        self.refuses(desk, PromiseBroken, desk.put, 0, Rule("lan", "required"), index=0)
        self.same(desk.put(0, Rule("lan", "optional")), differing(Stack(KEY, PIN), Stack(Rule("lan", "optional"), KEY, PIN)))


class StoreTest(RegisterCase):
    def test_store_and_go(self):
        desk = Register(Stack(PIN))
        self.same(desk.store("old"), False)
        desk.put(0, Stack(KEY, CARD))
        desk.promise({"pin": "yes"}, "in")
        self.same((desk.store("new"), desk.go("old")), (False, 1))
        self.assertEqual(desk.stack(), Stack(PIN))
        self.same((desk.promises, desk.stored), ([], ["new", "old"]))
        self.same(desk.go("new"), 3)
        self.assertEqual(desk.stack(), Stack(Stack(KEY, CARD), PIN))
        self.same(desk.promises, [({"pin": "yes"}, "in")])
        self.same([step[0] for step in desk.history], ["store", "put", "promise", "store", "go", "go"])
        self.same((desk.history[0], desk.history[4]), (("store", "old"), ("go", "old")))

    def test_a_name_that_is_stored_already(self):
        desk = Register(Stack(PIN))
        desk.store("a")
        desk.take(0)
        self.same((desk.store("a"), desk.stored), (True, ["a"]))
        desk.put(0, KEY)
        self.same((desk.go("a"), len(desk.stack())), (0, 0))

    def test_names_stay_behind_go(self):
        desk = Register(Stack(PIN))
        desk.store("a")
        desk.store("b")
        desk.go("a")
        self.same((desk.stored, desk.go("b")), (["a", "b"], 1))

    def test_promises_of_that_time(self):
        desk = Register(Stack(KEY, PIN))
        desk.store("free")
        desk.promise({"key": "yes"}, "in")
        desk.store("bound")
        self.refuses(desk, PromiseBroken, desk.swap, 0, index=0)
        desk.go("free")
        self.same((desk.swap(0), desk.promises), (2, []))
        self.same(desk.go("bound"), 2)
        self.refuses(desk, PromiseBroken, desk.swap, 0, index=0)
        self.same(desk.promise({"pin": "yes"}, "in"), 2)

    def test_a_store_that_was_undone(self):
        desk = Register(Stack(PIN))
        desk.store("a")
        desk.undo()
        self.refuses(desk, UnknownName, desk.go, "a")
        self.same((desk.stored, desk.redo(), desk.stored, desk.go("a")), ([], True, ["a"], 1))

    def test_a_store_over_another_one_that_was_undone(self):
        desk = Register(Stack(PIN))
        desk.store("a")
        desk.put(0, KEY)
        self.same((desk.store("a"), desk.undo(), desk.stored), (True, True, ["a"]))
        self.same((desk.go("a"), desk.undo(), desk.undo(), desk.undo(), desk.stored), (1, True, True, True, []))

    def test_ascending_names(self):
        desk = Register(Stack())
        for name in ("b", "zoo", "a", "ab", "abcdefgh"):
            desk.store(name)
        self.same(desk.stored, ["a", "ab", "abcdefgh", "b", "zoo"])

    def test_wrong_names(self):
        desk = Register(Stack(PIN))
        for name in ("", "A", "abcdefghi", "a b", "a1", None, True, 1, ("a",), ["a"]):
            self.refuses(desk, InvalidName, desk.store, name)
            self.refuses(desk, UnknownName, desk.go, name)
        self.refuses(desk, UnknownName, desk.go, "a")
        desk.store("a")
        self.refuses(desk, UnknownName, desk.go, "b")


class ReadingTest(RegisterCase):
    def test_what_is_handed_in_and_changed_later(self):
        desk, known = Register(Stack(PIN)), {"pin": "yes"}
        desk.promise(known, "in")
        known["pin"] = "no"
        self.same((desk.promises, desk.history), ([({"pin": "yes"}, "in")], [("promise", {"pin": "yes"}, "in")]))
        self.refuses(desk, PromiseBroken, desk.take, 0, index=0)

    def test_each_reading_is_new(self):
        desk = Register(Stack(PIN))
        desk.store("a")
        desk.promise({"pin": "yes"}, "in")
        before = repr((desk.stored, desk.promises, desk.history))
        for part in (desk.stored, desk.promises, desk.history):
            part.clear()
        desk.promises[0][0]["pin"] = "no"
        desk.history[1][1]["pin"] = "no"
        self.assertEqual(repr((desk.stored, desk.promises, desk.history)), before)
        self.same((desk.undo(), desk.redo()), (True, True))
        self.assertEqual(repr((desk.stored, desk.promises, desk.history)), before)

    def test_properties_cannot_be_assigned(self):
        for name in ("stored", "promises", "history"):
            with self.assertRaises(AttributeError):
                setattr(Register(Stack()), name, [])

    def test_two_registers_of_one_stack(self):
        stack = Stack(KEY, PIN)
        one, other = Register(stack), Register(stack)
        one.take(0)
        one.store("a")
        self.assertEqual((other.stack(), stack), (Stack(KEY, PIN), Stack(KEY, PIN)))
        self.same((other.stored, other.history), ([], []))


class PlainSearchTest(RegisterCase):
    def test_counts_beside_a_plain_search(self):
        rng = random.Random(25)
        for _ in range(60):
            desk = Register(plain.random_stack(rng, MODULES[:4], 4))
            for _ in range(4):
                self.check_operation(desk, rng)

    def check_operation(self, desk, rng):
        before = desk.stack()
        number = rng.randint(0, max(1, len(before)))
        entry = plain.random_stack(rng, MODULES[:4], 1) if rng.random() < 0.3 else sure(rng.choice("abcd"), "ok")
        call, arguments = rng.choice(((desk.put, (number, entry)), (desk.take, (number,)), (desk.swap, (number,)),
                                      (desk.turn, (number, plain.random_control(rng)))))
        try:
            count = call(*arguments)
        except StackError:
            self.assertEqual(desk.stack(), before)
        else:
            self.same(count, differing(before, desk.stack()))
            self.assertEqual(desk.history[-1], (call.__name__, *arguments))


if __name__ == "__main__":
    unittest.main()
