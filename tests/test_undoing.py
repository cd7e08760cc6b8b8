"""Point 26: undoing, lists of operations and trials."""

import random
import unittest

from loginstacks.errors import (InvalidAnswers, InvalidName, InvalidOperation, InvalidPlace, InvalidRule, InvalidStack,
                                InvalidWord, PromiseBroken, StackError, UnknownName, UnknownRule)
from loginstacks.registers import Register, Trial
from loginstacks.rules import Rule
from loginstacks.stacks import Stack
from tests import plain
from tests.support import Case

KEY, CARD, PIN = Rule("key", "sufficient"), Rule("card", "sufficient"), Rule("pin", "required")
EVERY_KIND = [("put", 0, KEY), ("promise", {"pin": "yes"}, "in"), ("store", "a"), ("swap", 0), ("turn", 1, "optional"),
              ("take", 1), ("store", "b"), ("go", "a"), ("store", "b")]
WRONG_ONES = [(InvalidPlace, ("put", 9, KEY)), (InvalidStack, ("put", 0, None)), (InvalidPlace, ("take", 9)),
              (InvalidPlace, ("swap", 9)), (UnknownRule, ("turn", 9, "none")), (InvalidRule, ("turn", 0, "none")),
              (InvalidAnswers, ("promise", {"zoo": "yes"}, "off")), (InvalidWord, ("promise", {}, "off")),
              (PromiseBroken, ("promise", {}, "in")), (InvalidName, ("store", "")), (UnknownName, ("go", "zoo"))]


def state(desk):
    return repr((plain.written(desk.stack()), desk.stored, desk.promises, plainly(desk.history)))


def plainly(operations):
    """Operations whose entries can be compared by their text."""
    return [tuple(plain.written(Stack(part)) if isinstance(part, (Rule, Stack)) else part for part in operation)
            for operation in operations]


def all_states(desk):
    """What the desk tells now, behind each undoing and behind each redoing; the desk is as before then."""
    found, undone = [state(desk)], 0
    while desk.undo():
        undone += 1
        found.append(state(desk))
    redone = 0
    while desk.redo():
        redone += 1
        found.append(state(desk))
    for _ in range(redone - undone):
        desk.undo()
    return found


def call_of(desk, operation):
    return getattr(desk, operation[0])(*operation[1:])


def desk_with(*operations):
    desk = Register(Stack(PIN))
    desk.apply_all(list(operations))
    return desk


def half_undone():
    """A desk with operations that can be undone, and others that can be redone."""
    desk = desk_with(("put", 0, KEY), ("store", "a"), ("promise", {"pin": "yes"}, "in"), ("swap", 0), ("store", "b"))
    desk.undo()
    desk.undo()
    return desk


class UndoTest(Case):
    def test_nothing_to_undo(self):
        desk = Register(Stack(PIN))
        self.same((desk.undo(), desk.redo(), desk.history), (False, False, []))
        desk.take(0)
        self.same((desk.redo(), desk.undo(), desk.undo(), desk.redo(), desk.redo()), (False, True, False, True, False))

    def test_operations_of_every_kind(self):
        desk, states = Register(Stack(PIN)), []
        for operation in EVERY_KIND:
            states.append(state(desk))
            call_of(desk, operation)
        last = state(desk)
        for before in reversed(states):
            self.same(desk.undo(), True)
            self.same(state(desk), before)
        self.same(desk.undo(), False)
        for behind in states[1:] + [last]:
            self.same(desk.redo(), True)
            self.same(state(desk), behind)
        self.same(desk.redo(), False)

    def test_undo_and_redo_are_not_in_the_history(self):
        desk = desk_with(("put", 0, KEY), ("swap", 0))
        desk.undo()
        self.assertEqual(desk.history, [("put", 0, KEY)])
        desk.redo()
        self.assertEqual(desk.history, [("put", 0, KEY), ("swap", 0)])

    def test_a_new_operation_behind_an_undone_one(self):
        for operation in EVERY_KIND[:3]:
            desk = desk_with(("put", 0, KEY), ("swap", 0))
            desk.undo()
            call_of(desk, operation)
            self.same((desk.redo(), len(desk.history)), (False, 2))
            self.same((desk.undo(), desk.redo(), desk.redo()), (True, True, False))

    def test_an_error_behind_an_undone_operation(self):
        for error, operation in WRONG_ONES:
            desk = half_undone()
            before = state(desk)
            with self.assertRaises(error):
                call_of(desk, operation)
            self.same(state(desk), before)
            self.same([desk.redo() for _ in range(3)], [True, True, False])
            self.same(desk.stored, ["a", "b"])

    def test_redoing_more_than_one(self):
        desk = desk_with(("put", 0, KEY), ("put", 0, CARD), ("swap", 1))
        self.same([desk.undo(), desk.undo(), desk.redo()], [True] * 3)
        self.assertEqual(desk.stack(), Stack(CARD, KEY, PIN))
        self.same((desk.redo(), desk.redo()), (True, False))
        self.assertEqual(desk.stack(), Stack(CARD, PIN, KEY))

    def test_promises_hold_behind_undo(self):
        desk = desk_with(("put", 0, KEY), ("promise", {"key": "yes"}, "in"))
        self.fails(PromiseBroken, desk.swap, 0, index=0)
        desk.undo()
        self.same((desk.swap(0), desk.undo(), desk.redo()), (2, True, True))


class ApplyAllTest(Case):
    def test_results(self):
        desk = Register(Stack(PIN))
        self.same(desk.apply_all(EVERY_KIND), [3, 1, False, 2, 0, 1, False, 2, True])
        self.same(plainly(desk.history), plainly(EVERY_KIND))
        self.same(desk.apply_all([]), [])

    def test_as_by_single_calls(self):
        desk, other = Register(Stack(PIN)), Register(Stack(PIN))
        operations = EVERY_KIND + [("undo",), ("undo",), ("redo",), ("take", 0), ("redo",), ("undo",), ("redo",)]
        results = [call_of(other, operation) for operation in operations]
        self.same(desk.apply_all(operations), results)
        self.same(all_states(desk), all_states(other))

    def test_undo_and_redo_among_them(self):
        desk = Register(Stack(PIN))
        operations = [("undo",), ("redo",), ("put", 0, KEY), ("swap", 0), ("undo",), ("undo",), ("redo",)]
        self.same(desk.apply_all(operations), [False, False, 3, 2, True, True, True])
        self.assertEqual((desk.history, desk.stack()), ([("put", 0, KEY)], Stack(KEY, PIN)))
        # What was undone by the list can be redone behind it, and what was done before can be undone by it.
        self.same(desk.redo(), True)
        self.same(desk.apply_all([("undo",)] * 3), [True, True, False])
        self.same((desk.history, desk.redo()), ([], True))

    def test_no_operations(self):
        right = ("put", 0, KEY)
        for wrong in (None, "put", ["put", 0, KEY], (), ("stack",), ("put",), ("put", 0), ("put", 0, KEY, 1), ("take",),
                      ("take", 0, 0), ("swap",), ("swap", 0, 1), ("turn", 0), ("turn", 0, "optional", 1), ("promise",),
                      ("promise", {}), ("promise", {}, "in", 1), ("store",), ("store", "a", "b"), ("go",), ("go", "a", 1),
                      ("undo", 1), ("redo", 1), ("Put", 0, KEY), (None,), (0, 0, KEY), (("put", 0, KEY),), (["put"], 0),
                      ("apply_all", []), ("tried", [], True), ("replay", 1, 2), ("history",), ("", 1), (True, 1)):
            desk = half_undone()
            before = all_states(desk)
            self.fails(InvalidOperation, desk.apply_all, [wrong], index=0)
            self.fails(InvalidOperation, desk.apply_all, [right, right, wrong, None, right], index=2)
            self.fails(InvalidOperation, desk.tried, [right, wrong], True, index=1)
            self.fails(InvalidOperation, Register.replay, Stack(PIN), [right, wrong], index=1)
            self.same(all_states(desk), before)

    def test_no_operation_ahead_of_all_else(self):
        desk = half_undone()
        for _, wrong in WRONG_ONES:
            self.fails(InvalidOperation, desk.apply_all, [wrong, wrong, ("none",)], index=2)

    def test_an_error_in_the_midst(self):
        for error, wrong in WRONG_ONES:
            desk = half_undone()
            before = all_states(desk)
            operations = [("put", 0, CARD), ("store", "new"), ("undo",), ("undo",), ("undo",), ("store", "a"), wrong,
                          ("store", "z")]
            with self.assertRaises(error):
                desk.apply_all(operations)
            self.same(all_states(desk), before)
            self.same((desk.redo(), desk.redo()), (True, True))

    def test_an_error_of_the_first_one(self):
        desk = half_undone()
        before = all_states(desk)
        self.fails(UnknownName, desk.apply_all, [("go", "zoo"), ("take", 0)])
        self.same(all_states(desk), before)

    def test_the_error_with_its_attributes(self):
        desk = desk_with(("promise", {"pin": "no"}, "out"), ("promise", {"pin": "yes"}, "in"))
        self.fails(PromiseBroken, desk.apply_all, [("put", 1, KEY), ("turn", 0, ("bad",) * 4), ("take", 0)], index=1)
        self.fails(InvalidStack, desk.apply_all, [("put", 1, KEY), ("put", 2, None)], index=2)
        self.fails(InvalidAnswers, desk.apply_all, [("put", 1, KEY), ("promise", {"key": "yes", "zoo": 1}, "")], name="zoo")

    def test_what_is_handed_in_and_changed_later(self):
        known = {"pin": "yes"}
        operations = [("promise", known, "in"), ("put", 0, KEY)]
        desk = Register(Stack(PIN))
        results = desk.apply_all(operations)
        results.clear()
        known["pin"] = "no"
        operations.clear()
        self.same(plainly(desk.history), plainly([("promise", {"pin": "yes"}, "in"), ("put", 0, KEY)]))
        self.same(desk.promises, [({"pin": "yes"}, "in")])

    def test_nothing_handed_in_is_changed(self):
        operations = EVERY_KIND + [("undo",)]
        before = repr(plainly(operations))
        Register(Stack(PIN)).apply_all(operations)
        Register(Stack(PIN)).tried(operations, True)
        Register.replay(Stack(PIN), operations)
        self.assertEqual(repr(plainly(operations)), before)


class ReplayTest(Case):
    def test_a_history(self):
        for operations in ([], EVERY_KIND, EVERY_KIND + [("undo",), ("undo",), ("put", 0, KEY)]):
            desk = desk_with(*operations)
            again = Register.replay(Stack(PIN), desk.history)
            self.assertIsInstance(again, Register)
            self.same(state(again), state(desk))
            while desk.undo():
                self.same(again.undo(), True)
                self.same(state(again), state(desk))
            self.same(again.undo(), False)

    def test_with_undo_and_redo(self):
        desk = Register.replay(Stack(PIN), [("take", 0), ("undo",), ("put", 1, KEY), ("undo",)])
        self.same((desk.history, desk.redo(), len(desk.stack())), ([], True, 2))

    def test_errors(self):
        self.fails(InvalidPlace, Register.replay, Stack(PIN), [("take", 0), ("take", 0)])
        self.fails(InvalidOperation, Register.replay, Stack(PIN), [("take", 1), ("take",)], index=1)
        self.fails(PromiseBroken, Register.replay, Stack(PIN), [("promise", {}, "out")], index=0)

    def test_the_stack_stays_as_it_is(self):
        stack = Stack(PIN)
        Register.replay(stack, EVERY_KIND)
        self.assertEqual(stack, Stack(PIN))


class TrialTest(Case):
    def test_without_hold(self):
        desk = half_undone()
        before = all_states(desk)
        with Trial(desk) as trial:
            self.assertIsInstance(trial, Trial)
            desk.undo()
            desk.store("new")
            desk.put(0, CARD)
            self.same(desk.stored, ["a", "new"])
        self.same(all_states(desk), before)

    def test_with_hold(self):
        for early in (True, False):
            desk, other = half_undone(), half_undone()
            other.put(0, CARD)
            other.store("new")
            with Trial(desk) as trial:
                if early:
                    trial.hold()
                desk.put(0, CARD)
                desk.store("new")
                if not early:
                    trial.hold()
            self.same(all_states(desk), all_states(other))
            self.same(desk.redo(), False)

    def test_undo_alone(self):
        desk = half_undone()
        before = all_states(desk)
        with Trial(desk):
            self.same([desk.undo() for _ in range(4)], [True, True, True, False])
        self.same(all_states(desk), before)
        with Trial(desk):
            self.same([desk.redo() for _ in range(3)], [True, True, False])
        self.same(all_states(desk), before)

    def test_a_block_that_ends_with_an_error(self):
        for error in (KeyError, InvalidPlace):
            desk = half_undone()
            before = all_states(desk)
            with self.assertRaises(error):
                with Trial(desk):
                    desk.put(0, CARD)
                    raise error("why")
            self.same(all_states(desk), before)

    def test_an_error_behind_hold(self):
        desk = Register(Stack(PIN))
        with self.assertRaises(InvalidPlace):
            with Trial(desk) as trial:
                desk.put(0, CARD)
                trial.hold()
                desk.take(9)
        self.assertEqual(desk.stack(), Stack(CARD, PIN))
        self.same((len(desk.history), desk.undo(), desk.redo()), (1, True, True))

    def test_an_error_that_is_caught_in_the_block(self):
        desk = Register(Stack(PIN))
        with Trial(desk) as trial:
            self.fails(InvalidPlace, desk.take, 9)
            desk.put(0, CARD)
            trial.hold()
        self.assertEqual(desk.stack(), Stack(CARD, PIN))

    def test_blocks_in_blocks(self):
        for outer_holds in (True, False):
            for inner_holds in (True, False):
                desk = half_undone()
                wanted = [("put", 0, CARD)] * outer_holds + [("store", "in")] * (outer_holds and inner_holds)
                other = half_undone()
                other.apply_all(wanted)
                with Trial(desk) as outer:
                    desk.put(0, CARD)
                    with Trial(desk) as inner:
                        desk.store("in")
                        if inner_holds:
                            inner.hold()
                    self.same("in" in desk.stored, inner_holds)
                    if outer_holds:
                        outer.hold()
                self.same(all_states(desk), all_states(other))

    def test_the_same_trial_twice(self):
        desk = Register(Stack(PIN))
        trial = Trial(desk)
        with trial:
            desk.put(0, CARD)
            trial.hold()
        with trial:
            desk.put(0, KEY)
        self.assertEqual(desk.stack(), Stack(CARD, PIN))

    def test_hold_counts_for_its_own_block_alone(self):
        for holds in ((False, True), (False, False), (True, True), (True, False)):
            desk, other = half_undone(), half_undone()
            trial = Trial(desk)
            trial.hold()
            for held, name in zip(holds, ("one", "two")):
                with trial:
                    desk.store(name)
                    if held:
                        trial.hold()
                        trial.hold()
                trial.hold()
            other.apply_all([("store", name) for held, name in zip(holds, ("one", "two")) if held])
            self.same(all_states(desk), all_states(other))

    def test_the_beginning_is_that_of_the_block(self):
        desk = Register(Stack(PIN))
        trial = Trial(desk)
        desk.put(0, CARD)
        with trial:
            desk.put(0, KEY)
        self.assertEqual(desk.stack(), Stack(CARD, PIN))

    def test_another_desk_is_not_touched(self):
        desk, other = Register(Stack(PIN)), Register(Stack(PIN))
        with Trial(desk):
            desk.take(0)
            other.take(0)
        self.same((len(desk.stack()), len(other.stack())), (1, 0))


class TriedTest(Case):
    def test_keep(self):
        desk = half_undone()
        self.same(desk.tried([("put", 0, CARD), ("store", "a"), ("undo",)], True), [differing_of_card(), True, True])
        self.assertEqual(desk.stack(), Stack(CARD, KEY, PIN))
        self.same((desk.redo(), desk.redo()), (True, False))

    def test_do_not_keep(self):
        desk = half_undone()
        before = all_states(desk)
        self.same(desk.tried([("put", 0, CARD), ("store", "a"), ("undo",)], False), [differing_of_card(), True, True])
        self.same(all_states(desk), before)
        self.same((desk.redo(), desk.redo(), desk.redo()), (True, True, False))

    def test_errors(self):
        for keep in (True, False):
            for error, wrong in WRONG_ONES:
                desk = half_undone()
                before = all_states(desk)
                with self.assertRaises(error):
                    desk.tried([("put", 0, CARD), wrong], keep)
                self.same(all_states(desk), before)
            self.fails(InvalidOperation, desk.tried, [("take", 9), ("take",)], keep, index=1)

    def test_none(self):
        desk = half_undone()
        self.same((desk.tried([], True), desk.tried([], False), desk.redo()), ([], [], True))


def differing_of_card():
    return len(plain.parting(Stack(KEY, PIN), Stack(CARD, KEY, PIN)))


class PlainModelTest(Case):
    def test_beside_lists_of_all_that_was_done(self):
        rng = random.Random(26)
        for _ in range(60):
            desk, done, undone = Register(Stack(PIN)), [], []
            for _ in range(25):
                self.check_step(desk, done, undone, rng)

    def check_step(self, desk, done, undone, rng):
        """Does one step at the desk and in the lists, and holds the desk against one that does just what is in effect."""
        chosen = rng.random()
        if chosen < 0.3:
            self.same(desk.undo(), bool(done))
            if done:
                undone.append(done.pop())
        elif chosen < 0.5:
            self.same(desk.redo(), bool(undone))
            if undone:
                done.append(undone.pop())
        else:
            operation = self.random_operation(rng)
            try:
                call_of(desk, operation)
            except StackError:
                pass
            else:
                done.append(operation)
                undone.clear()
        other = Register(Stack(PIN))
        for operation in done:
            call_of(other, operation)
        self.same(state(desk), state(other))

    def random_operation(self, rng):
        entry = Rule(rng.choice(("key", "pin", "lan")), rng.choice(("required", "sufficient", "optional")))
        return rng.choice((("put", rng.randint(0, 2), entry), ("take", rng.randint(0, 2)), ("swap", rng.randint(0, 1)),
                           ("turn", rng.randint(0, 2), rng.choice(("required", "optional"))),
                           ("promise", {"pin": rng.choice(("yes", "no"))}, rng.choice(("in", "out"))),
                           ("store", rng.choice("ab")), ("go", rng.choice("ab"))))


if __name__ == "__main__":
    unittest.main()
