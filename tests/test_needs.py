"""Point 17: needs."""

import random
import unittest

from loginstacks.errors import InvalidAnswers, InvalidNeeds
from loginstacks.needs import held_back, idle_needs, visit_with
from loginstacks.rules import Rule
from loginstacks.services import Service, visit
from loginstacks.stacks import Stack
from tests import plain, plain_visits
from tests.support import Case, IGNORE, MODULES, sure

CARD_PIN = Stack(Rule("card", "optional"), Rule("pin", "required"))
PIN_CARD = Stack(Rule("pin", "required"), Rule("card", "optional"))
EMPTY = Stack()
OPEN = Stack(Rule("pin", ("ok",) * 4))
SERVICE = Service(CARD_PIN, CARD_PIN, EMPTY, EMPTY)
NEEDS = {"pin": ("card",)}


def rules(*names):
    """A stack that asks for these, each one required."""
    return Stack(*[Rule(name, "required") for name in names])


def told(service, needs, answers):
    return (visit_with(service, needs, answers), held_back(service, needs, answers))


def plainly_idle(service, needs):
    ends = plain_visits.all_ends(service, needs)
    found = []
    for module in sorted(needs):
        for needed in needs[module]:
            lesser = {**needs, module: tuple(name for name in needs[module] if name != needed)}
            if plain_visits.all_ends(service, lesser) == ends:
                found.append((module, needed))
    return found


class VisitWithTest(Case):
    def test_example(self):
        rows = [{"card": "yes", "pin": "yes"}, {"card": "no", "pin": "yes"}]
        self.same([list(told(SERVICE, NEEDS, one)) for one in rows] + [idle_needs(SERVICE, NEEDS)],
                  [[("opened", "session"), []], [("refused", "login"), ["pin"]], []])
        self.fails(InvalidNeeds, idle_needs, Service(rules("pin"), EMPTY, EMPTY, EMPTY), NEEDS, name="pin")

    def test_met_within_one_phase(self):
        service = Service(CARD_PIN, EMPTY, OPEN, EMPTY)
        self.same(told(service, NEEDS, {"card": "yes", "pin": "no"}), (("refused", "login"), []))
        self.same(told(service, NEEDS, {"card": "skip", "pin": "no"}), (("refused", "login"), ["pin"]))
        self.same(told(service, NEEDS, {"card": "yes", "pin": "yes"}), (("opened", "session"), []))

    def test_met_across_phases(self):
        service = Service(rules("card"), rules("pin"), EMPTY, EMPTY)
        self.same(told(service, NEEDS, {"card": "yes", "pin": "yes"}), (("opened", "session"), []))
        self.same(told(service, NEEDS, {"card": "yes", "pin": "no"}), (("refused", "account"), []))
        late = Service(Stack(Rule("card", ("ok",) * 4)), rules("pin"), EMPTY, EMPTY)
        self.same(told(late, NEEDS, {"card": "no", "pin": "yes"}), (("refused", "change"), ["pin"]))
        far = Service(rules("card"), rules("lan"), rules("lan"), rules("pin"))
        self.same(told(far, NEEDS, {"card": "yes", "pin": "no", "lan": "yes"}), (("refused", "session"), []))

    def test_asked_before_and_after_what_it_needs(self):
        service = Service(PIN_CARD, PIN_CARD, EMPTY, EMPTY)
        # In "login" the pin tells "skip", in "account" its own answer, since the token lasts.
        self.same(told(service, NEEDS, {"card": "yes", "pin": "no"}), (("refused", "account"), ["pin"]))
        self.same(told(service, NEEDS, {"card": "yes", "pin": "yes"}), (("opened", "session"), ["pin"]))
        within = Service(PIN_CARD + Stack(Rule("pin", "required")), EMPTY, EMPTY, EMPTY)
        self.same(told(within, NEEDS, {"card": "yes", "pin": "gone"}), (("refused", "login"), ["pin"]))
        self.same(told(within, NEEDS, {"card": "yes", "pin": "yes"}), (("refused", "change"), ["pin"]))

    def test_a_token_lasts_although_nothing_is_asked_again(self):
        service = Service(Stack(Rule("card", "optional"), Rule("card", "optional"), Rule("lan", "optional")),
                          rules("lan"), EMPTY, rules("pin"))
        self.same(told(service, NEEDS, {"card": "yes", "pin": "no", "lan": "yes"}), (("refused", "session"), []))

    def test_a_new_visit_has_no_tokens(self):
        service = Service(PIN_CARD, EMPTY, EMPTY, EMPTY)
        for _ in range(2):
            self.same(told(service, NEEDS, {"card": "yes", "pin": "no"}), (("refused", "change"), ["pin"]))

    def test_skip_in_place_of_any_answer(self):
        control = ("bad", "bad", "ok", "bad")
        service = Service(Stack(Rule("pin", control)), Stack(Rule("card", ("ok",) * 4)), EMPTY, EMPTY)
        for result in plain.RESULTS:
            held = [] if result == "skip" else ["pin"]
            self.same(told(service, NEEDS, {"card": "no", "pin": result}), (("opened", "session"), held))

    def test_only_yes_gives_a_token(self):
        service = Service(Stack(Rule("card", ("ok",) * 4), Rule("pin", ("ignore", "bad", "ignore", "bad"))),
                          Stack(sure("pin", "ok")), EMPTY, EMPTY)
        for result, end in (("yes", "login"), ("no", "session"), ("skip", "session"), ("gone", "session")):
            self.same(visit_with(service, NEEDS, {"card": result, "pin": "no"})[1], end)

    def test_who_is_held_back_gets_no_token(self):
        service = Service(Stack(Rule("a", IGNORE), Rule("b", IGNORE), Rule("c", "required"), Rule("d", "optional")),
                          Stack(sure("d", "ok")), EMPTY, EMPTY)
        needs = {"b": ("a",), "c": ("b",)}
        answers = {"a": "no", "b": "yes", "c": "no", "d": "yes"}
        self.same(told(service, needs, answers), (("opened", "session"), ["b", "c"]))
        self.same(told(service, needs, {**answers, "a": "yes"}), (("refused", "login"), []))
        self.same(told(service, needs, {**answers, "a": "yes", "b": "skip"}), (("opened", "session"), ["c"]))

    def test_several_needed_modules(self):
        service = Service(Stack(sure("a", "ok"), Rule("b", IGNORE), Rule("c", IGNORE), Rule("d", "required")),
                          Stack(sure("a", "ok")), EMPTY, EMPTY)
        for row in plain.all_answers("abc"):
            met = list(row.values()) == ["yes"] * 3
            self.same(told(service, {"d": ("a", "b", "c")}, {**row, "d": "no"}),
                      (("refused", "login"), []) if met else (("opened", "session"), ["d"]))

    def test_two_that_need_each_other(self):
        service = Service(rules("a", "b", "a", "b"), rules("c"), EMPTY, EMPTY)
        answers = {"a": "yes", "b": "no", "c": "yes"}
        self.same(told(service, {"a": ("b",), "b": ("a",)}, answers), (("refused", "login"), ["a", "b"]))

    def test_who_is_not_asked_is_not_held_back(self):
        service = Service(rules("lan"), rules("pin"), EMPTY, rules("card"))
        self.same(told(service, NEEDS, {"lan": "no", "pin": "yes", "card": "yes"}), (("refused", "login"), []))

    def test_no_needs(self):
        for answers in plain.all_answers(SERVICE.modules):
            self.same(told(SERVICE, {}, answers), (visit(SERVICE, answers), []))
        self.same(told(Service(EMPTY, EMPTY, EMPTY, EMPTY), {}, {}), (("refused", "login"), []))
        self.same(idle_needs(SERVICE, {}), [])

    def test_beside_plain_visits(self):
        rng = random.Random(17)
        held = 0
        for service in plain_visits.random_services(rng, MODULES[:3], 50, 2):
            needs = plain_visits.random_needs(rng, service.modules)
            for answers in plain.all_answers(service.modules):
                wanted = plain_visits.Visit(service, answers, needs)
                self.same(told(service, needs, answers), (wanted.end, wanted.held))
                held += wanted.end != plain_visits.end(service, answers)
        self.assertGreater(held, 100)


class IdleTest(Case):
    def test_each_one_alone(self):
        # If "b" needs "a", it has its token behind that of "a" only, so that "c" needs "a" in vain.
        stack = Stack(Rule("a", "optional"), Rule("b", "optional"), Rule("c", "required"))
        service = Service(stack, OPEN, EMPTY, EMPTY)
        self.same(idle_needs(service, {"b": ("a",), "c": ("a", "b")}), [("c", "a")])
        self.same(idle_needs(service, {"c": ("a", "b")}), [])

    def test_the_same_result_at_another_phase_is_not_alike(self):
        service = Service(Stack(sure("card", "ok"), Rule("pin", "required")), Stack(sure("pin", "bad")), EMPTY, EMPTY)
        self.same(idle_needs(service, NEEDS), [])
        service = Service(Stack(sure("card", "ok"), Rule("pin", IGNORE)), Stack(sure("pin", "bad")), EMPTY, EMPTY)
        self.same(idle_needs(service, NEEDS), [("pin", "card")])

    def test_of_a_module_that_needs_itself_in_a_circle(self):
        service = Service(rules("a", "b"), EMPTY, EMPTY, EMPTY)
        self.same(idle_needs(service, {"a": ("b",), "b": ("a",)}), plainly_idle(service, {"a": ("b",), "b": ("a",)}))

    def test_in_ascending_order(self):
        stack = Stack(sure("b", "ok"), Rule("c", IGNORE), Rule("a", IGNORE))
        service = Service(stack, Stack(sure("a", "ok")), EMPTY, EMPTY)
        self.same(idle_needs(service, {"c": ("a", "b"), "a": ("b", "c"), "b": ("a",)}),
                  [("a", "b"), ("a", "c"), ("b", "a"), ("c", "a"), ("c", "b")])

    def test_many_modules(self):
        service = Service(*[Stack(*[Rule(name, "optional") for name in "abcdefabcdef"])] * 4)
        needs = {name: tuple(other for other in "abcdef" if other != name) for name in "abcdef"}
        self.same(idle_needs(service, needs), [(name, other) for name in "abcdef" for other in needs[name]])

    def test_beside_a_plain_search(self):
        rng = random.Random(171)
        idle = mixed = 0
        for service in plain_visits.random_services(rng, MODULES[:3], 60, 2):
            needs = plain_visits.random_needs(rng, service.modules)
            found = idle_needs(service, needs)
            self.same(found, plainly_idle(service, needs))
            idle += len(found) > 0
            mixed += 0 < len(found) < sum(len(needs[name]) for name in needs)
        self.assertGreater(idle, 10)
        self.assertGreater(mixed, 5)


class WrongTest(Case):
    SERVICE = Service(rules("b", "c"), rules("d"), EMPTY, EMPTY)
    ANSWERS = {"b": "yes", "c": "yes", "d": "yes"}

    def check(self, needs, name):
        self.fails(InvalidNeeds, idle_needs, self.SERVICE, needs, name=name)
        for call in (visit_with, held_back):
            for answers in (self.ANSWERS, {}, {"a": None}):
                self.fails(InvalidNeeds, call, self.SERVICE, needs, answers, name=name)

    def test_no_module(self):
        self.check({"a": ("b",)}, "a")
        self.check({"": ("b",)}, "")
        self.check({"zoo": ()}, "zoo")
        self.check({"zoo": ("b",), "c": ("b",)}, "zoo")

    def test_no_such_tuple(self):
        for wrong in ((), ("b",), ("c", "b"), ("a",), ("b", "c"), ("d", "c"), ("c", "c"), ("c", "d", "d"), ("c", "zoo"),
                      ("",), (None,), (1,), (("c",),), ["c"], "c", "cd", None, 1, {}, {"c": True}, ("c", ["d"])):
            self.check({"b": wrong}, "b")

    def test_the_least_name(self):
        self.check({"d": ("d",), "c": ("c",), "b": ("c",)}, "c")
        self.check({"d": ("c", "b"), "a": ("b",)}, "a")
        self.check({"e": ("b",), "d": (), "b": ("c", "d")}, "d")
        self.check({"e": ("b",), "d": ("b",), "b": ("c", "d")}, "e")

    def test_right_ones(self):
        for needs in ({}, {"b": ("c",)}, {"b": ("c", "d"), "c": ("b",), "d": ("b", "c")}):
            wanted = plain_visits.end(self.SERVICE, self.ANSWERS, needs)
            self.same(visit_with(self.SERVICE, needs, self.ANSWERS), wanted)

    def test_wrong_answers(self):
        rows = [({}, "b"), ({"b": "yes", "c": "no"}, "d"), ({**self.ANSWERS, "a": "yes"}, "a"),
                ({**self.ANSWERS, "c": "ok", "zoo": "yes"}, "c"), ({**self.ANSWERS, "c": True}, "c")]
        for answers, name in rows:
            for call in (visit_with, held_back):
                for needs in ({}, {"b": ("c",)}):
                    self.fails(InvalidAnswers, call, self.SERVICE, needs, answers, name=name)


if __name__ == "__main__":
    unittest.main()
