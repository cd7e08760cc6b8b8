"""Points 4 and 5: runs."""

import random
import unittest

from loginstacks.errors import InvalidAnswers
from loginstacks.rules import Rule
from loginstacks.runs import asked, blamed, outcome
from loginstacks.stacks import Stack
from tests import plain
from tests.support import Case, IGNORE, MODULES, idle, sure

# The mark behind an action, for each mark ahead of it, in a stack that begins with the mark "none".
MARKS = {
    "ok": {"none": "good", "good": "good", "bad": "bad"},
    "bad": {"none": "bad", "good": "bad", "bad": "bad"},
    "die": {"none": "bad", "good": "bad", "bad": "bad"},
    "done": {"none": "good", "good": "good", "bad": "bad"},
    "ignore": {"none": "none", "good": "good", "bad": "bad"},
    "reset": {"none": "none", "good": "none", "bad": "none"},
    1: {"none": "none", "good": "good", "bad": "bad"},
    9: {"none": "none", "good": "good", "bad": "bad"},
}
MAKERS = {"none": "ignore", "good": "ok", "bad": "bad"}


def is_end(action, mark):
    """Whether a stack ends behind an action that finds this mark."""
    return action == "die" or (action == "done" and mark != "bad")


def told(stack, answers):
    return (outcome(stack, answers), asked(stack, answers), blamed(stack, answers))


def told_always(*entries):
    """What a stack tells of which the one module is "a" and the result does not matter."""
    return told(Stack(*entries), {"a": "yes"})


def view(mark, number):
    """The outcome and the blamed rule of a mark that this rule made bad, if it is bad."""
    return ("in" if mark == "good" else "out", number if mark == "bad" else None)


class ExamplesTest(Case):
    def test_key_or_pin(self):
        stack = Stack(Rule("key", "sufficient"), Rule("pin", "required"))
        rows = [{"key": "yes", "pin": "no"}, {"key": "no", "pin": "yes"}, {"key": "gone", "pin": "no"},
                {"key": "no", "pin": "skip"}]
        self.same([told(stack, one) for one in rows],
                  [("in", [0], None), ("in", [0, 1], None), ("out", [0, 1], 1), ("out", [0, 1], None)])

    def test_inner_stack_and_jump(self):
        stack = Stack(Stack(Rule("key", "sufficient"), Rule("card", "required")),
                      Rule("lan", (1, "ignore", "ignore", "ignore")), Rule("pin", "required"))
        self.same([outcome(stack, {"key": "yes", "card": "no", "lan": "no", "pin": "no"}),
                   asked(stack, {"key": "yes", "card": "no", "lan": "yes", "pin": "no"})], ["out", [0, 2]])

    def test_error(self):
        self.fails(InvalidAnswers, outcome, Stack(Rule("pin", "required")), {"card": "yes"}, name="card")


class ActionsTest(Case):
    def test_in_a_flat_stack(self):
        for action, marks in MARKS.items():
            for before, after in marks.items():
                with self.subTest(action=action, before=before):
                    found = told_always(sure("a", MAKERS[before]), sure("a", action), sure("a", "ignore"))
                    numbers = [0, 1] if is_end(action, before) or action in (1, 9) else [0, 1, 2]
                    word, maker = view(after, 0 if before == "bad" else 1)
                    self.same(found, (word, numbers, maker))

    def test_in_an_inner_stack(self):
        """The mark is made within the inner stack, behind each mark with which this can begin."""
        for began in ("none", "good", "bad"):
            for action in MARKS:
                for made in ("none", "good", "bad"):
                    with self.subTest(began=began, action=action, made=made):
                        self.check_inner(began, action, made)

    def check_inner(self, began, action, made):
        entries = [sure("a", MAKERS[began]), Stack(sure("a", MAKERS[made]), sure("a", action), sure("a", "ignore")),
                   sure("a", "ignore")]
        before = {"none": began, "good": "bad" if began == "bad" else "good", "bad": "bad"}[made]
        after = began if action == "reset" else MARKS[action][before]
        first_bad = [0 if began == "bad" else None, 1 if made == "bad" else None, 2]
        maker = [number for number in first_bad if number is not None][0]
        numbers = [0, 1, 2, 4] if is_end(action, before) or action in (1, 9) else [0, 1, 2, 3, 4]
        word, number = view(after, maker)
        self.same(told_always(*entries), (word, numbers, number))

    def test_each_result_has_its_action(self):
        stack = Stack(sure("b", "ok"), Rule("a", ("ok", "bad", "ignore", "reset")))
        found = [told(stack, {"a": result, "b": "no"}) for result in plain.RESULTS]
        self.same(found, [("in", [0, 1], None), ("out", [0, 1], 1), ("in", [0, 1], None), ("out", [0, 1], None)])

    def test_empty_stacks(self):
        self.same(told(Stack(), {}), ("out", [], None))
        self.same(told(Stack(Stack(), Stack(Stack())), {}), ("out", [], None))
        self.same(told_always(Stack(), sure("a", "ok"), Stack()), ("in", [0], None))

    def test_a_module_is_asked_again(self):
        stack = Stack(Rule("a", ("ok", "bad", 1, "ignore")), Rule("a", ("ignore", "reset", "ok", "ok")))
        self.same([told(stack, {"a": result}) for result in plain.RESULTS],
                  [("in", [0, 1], None), ("out", [0, 1], None), ("out", [0], None), ("in", [0, 1], None)])


class EndsTest(Case):
    def test_die_ends_the_inner_stack_alone(self):
        self.same(told_always(Stack(Stack(sure("a", "die"), sure("a", "ok")), sure("a", "ok")), sure("a", "reset"),
                              sure("a", "ok")), ("in", [0, 2, 3, 4], None))

    def test_die_ends_the_whole_stack(self):
        self.same(told_always(sure("a", "ok"), sure("a", "die"), Stack(sure("a", "reset")), sure("a", "reset")),
                  ("out", [0, 1], 1))

    def test_done_with_the_mark_bad_ends_nothing(self):
        self.same(told_always(sure("a", "bad"), Stack(sure("a", "done"), sure("a", "ignore")), sure("a", "done"),
                              sure("a", "ignore")), ("out", [0, 1, 2, 3, 4], 0))

    def test_done_ends_the_inner_stack_alone(self):
        self.same(told_always(Stack(sure("a", "done"), sure("a", "bad")), sure("a", "ignore"), sure("a", "done"),
                              sure("a", "bad")), ("in", [0, 2, 3], None))

    def test_done_ends_with_the_mark_that_was_good_before(self):
        self.same(told_always(sure("a", "ok"), Stack(sure("a", "done"), sure("a", "bad"))), ("in", [0, 1], None))


class ResetTest(Case):
    def test_back_to_the_mark_with_which_the_inner_stack_began(self):
        self.same(told_always(sure("a", "ok"), Stack(sure("a", "bad"), sure("a", "reset"))), ("in", [0, 1, 2], None))
        self.same(told_always(Stack(sure("a", "bad"), sure("a", "reset"))), ("out", [0, 1], None))
        self.same(told_always(sure("a", "bad"), Stack(sure("a", "bad"), sure("a", "reset"))), ("out", [0, 1, 2], 0))

    def test_of_an_inner_stack_does_not_reach_further(self):
        inner = Stack(Stack(sure("a", "bad")), sure("a", "reset"), sure("a", "ignore"))
        self.same(told_always(sure("a", "ok"), inner), ("in", [0, 1, 2, 3], None))
        deep = Stack(sure("a", "bad"), Stack(sure("a", "ok"), sure("a", "reset")))
        self.same(told_always(sure("a", "ok"), deep), ("out", [0, 1, 2, 3], 1))

    def test_of_the_whole_stack_leads_back_to_none(self):
        self.same(told_always(sure("a", "ok"), Stack(sure("a", "ok")), sure("a", "reset")), ("out", [0, 1, 2], None))
        self.same(told_always(sure("a", "bad"), sure("a", "reset"), sure("a", "ok")), ("in", [0, 1, 2], None))

    def test_blames_the_rule_that_made_it_so_then(self):
        stack = [sure("a", "bad"), Stack(sure("a", "ok"), sure("a", "bad"), sure("a", "reset"), sure("a", "bad"))]
        self.same(told_always(*stack), ("out", [0, 1, 2, 3, 4], 0))

    def test_blames_the_rule_behind_it(self):
        stack = [sure("a", "ok"), Stack(sure("a", "bad"), sure("a", "reset"), sure("a", "bad"), sure("a", "bad"))]
        self.same(told_always(*stack), ("out", [0, 1, 2, 3, 4], 3))

    def test_may_be_made_again(self):
        self.same(told_always(sure("a", "bad"), sure("a", "reset"), sure("a", "die")), ("out", [0, 1, 2], 2))


class BlamedTest(Case):
    def test_a_mark_that_is_bad_already(self):
        for action in ("bad", "die"):
            self.same(told_always(sure("a", "ok"), sure("a", "bad"), sure("a", action)), ("out", [0, 1, 2], 1))
            self.same(told_always(Stack(sure("a", "die")), Stack(sure("a", action))), ("out", [0, 1], 0))

    def test_nobody(self):
        self.assertIsNone(blamed(Stack(), {}))
        self.assertIsNone(blamed(Stack(sure("a", "ok")), {"a": "no"}))
        self.assertIsNone(blamed(Stack(sure("a", "ignore")), {"a": "no"}))

    def test_numbers_count_rules_that_are_not_asked(self):
        self.same(told_always(Stack(sure("a", "done"), *idle(3)), sure("a", 2), Stack(*idle(2)), *idle(1),
                              sure("a", "bad")), ("out", [0, 4, 8], 8))


class JumpsTest(Case):
    def test_leave_out_so_many_entries(self):
        for jump in range(1, 10):
            found = told_always(sure("a", jump), *idle(9), sure("a", "ok"))
            self.same(found, ("in", [0] + list(range(jump + 1, 11)), None))

    def test_leave_out_all_if_there_are_fewer(self):
        for jump in range(2, 10):
            self.same(told_always(sure("a", "ok"), sure("a", jump), sure("a", "bad")), ("in", [0, 1], None))
        for jump in range(1, 10):
            self.same(told_always(sure("a", "ok"), sure("a", jump)), ("in", [0, 1], None))

    def test_an_inner_stack_is_one_entry(self):
        inner = Stack(sure("a", "bad"), Stack(sure("a", "bad"), sure("a", "bad")))
        self.same(told_always(sure("a", 1), inner, sure("a", "ok")), ("in", [0, 4], None))
        self.same(told_always(sure("a", 2), Stack(), inner, sure("a", "ok")), ("in", [0, 4], None))
        self.same(told_always(sure("a", 1), Stack(), sure("a", "ok"), inner), ("out", [0, 1, 2, 3, 4], 2))

    def test_stay_within_their_stack(self):
        for jump in (1, 2, 9):
            self.same(told_always(Stack(sure("a", jump), sure("a", "bad")), sure("a", "ok")), ("in", [0, 2], None))
            self.same(told_always(Stack(sure("a", jump)), sure("a", "ok")), ("in", [0, 1], None))

    def test_jumps_that_are_left_out_do_nothing(self):
        self.same(told_always(sure("a", 1), sure("a", 9), sure("a", "ok"), sure("a", "ok")), ("in", [0, 2, 3], None))

    def test_a_jump_behind_a_jump(self):
        self.same(told_always(sure("a", 1), sure("a", "bad"), sure("a", 1), sure("a", "bad"), sure("a", "ok")),
                  ("in", [0, 2, 4], None))


class AnswersTest(Case):
    STACK = Stack(Rule("key", "sufficient"), Stack(Rule("pin", "required")))

    def check(self, answers, name):
        for call in (outcome, asked, blamed):
            self.fails(InvalidAnswers, call, self.STACK, answers, name=name)

    def test_missing(self):
        self.check({}, "key")
        self.check({"key": "yes"}, "pin")
        self.check({"pin": "yes"}, "key")

    def test_superfluous(self):
        self.check({"key": "yes", "pin": "yes", "card": "yes"}, "card")
        self.check({"key": "yes", "pin": "yes", "zoo": "yes", "tan": "no"}, "tan")
        for call in (outcome, asked, blamed):
            self.fails(InvalidAnswers, call, Stack(), {"pin": "yes"}, name="pin")

    def test_no_result(self):
        for wrong in ("", "Yes", "ok", "yes ", "none", "in", None, 0, 1, True, False, (), ("yes",)):
            self.check({"key": "yes", "pin": wrong}, "pin")
            self.check({"key": wrong, "pin": wrong}, "key")

    def test_all_together(self):
        self.check({"pin": "ok", "zoo": "yes"}, "key")
        self.check({"pin": "ok", "zoo": "yes", "key": "no"}, "pin")
        self.check({"pin": "yes", "zoo": None, "key": "no"}, "zoo")
        self.check({"pin": None, "lan": "yes", "key": "no"}, "lan")
        self.check({"pin": None, "lan": "yes"}, "key")
        self.check({"key": "maybe", "lan": "yes"}, "key")
        self.check({"lan": "yes", "key": "yes"}, "lan")

    def test_order_of_the_dict_does_not_matter(self):
        self.same(told(self.STACK, {"pin": "yes", "key": "no"}), ("in", [0, 1], None))


class PlainTest(Case):
    def test_beside_a_plain_run(self):
        rng = random.Random(4)
        for _ in range(400):
            stack = plain.random_stack(rng, MODULES[:3], rng.randint(1, 12))
            for answers in plain.all_answers(stack.modules):
                self.assertEqual(told(stack, answers), plain.told(stack, answers))

    def test_a_rule_that_does_nothing_changes_nothing(self):
        for action in plain.WORDS:
            one = told_always(sure("a", "ok"), sure("a", action), Rule("a", IGNORE))
            self.assertEqual(one[0], told_always(sure("a", "ok"), sure("a", action))[0])


if __name__ == "__main__":
    unittest.main()
