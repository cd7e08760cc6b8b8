"""Point 16: services and visits."""

import random
import unittest

from loginstacks.errors import InvalidAnswers, InvalidService
from loginstacks.rules import Rule
from loginstacks.services import Service, asked_in, phases, visit
from loginstacks.stacks import Stack
from tests import plain, plain_visits
from tests.support import Case, IGNORE, MODULES, idle_stack, sure

PIN, DUE, FRESH = [Stack(Rule(name, "required")) for name in ("pin", "due", "fresh")]
LOG = Stack(Rule("log", "optional"))
SERVICE = Service(PIN, DUE, FRESH, LOG)
MARKERS = {"none": Stack(sure("a", "ignore")), "good": Stack(sure("a", "ok")), "bad": Stack(sure("a", "bad"))}
# The end, and the phases, for the marks at the ends of all four phases; None stands for any mark.
ENDS = {
    ("none", None, None, None): ("refused", "login"),
    ("bad", None, None, None): ("refused", "login"),
    ("good", "bad", None, None): ("refused", "account"),
    ("good", "none", "none", None): ("refused", "change"),
    ("good", "none", "bad", None): ("refused", "change"),
    ("good", "none", "good", "none"): ("opened", "session"),
    ("good", "none", "good", "good"): ("opened", "session"),
    ("good", "none", "good", "bad"): ("refused", "session"),
    ("good", "good", None, "none"): ("opened", "session"),
    ("good", "good", None, "good"): ("opened", "session"),
    ("good", "good", None, "bad"): ("refused", "session"),
}
NAMES = ("login", "account", "change", "session")


class ServiceTest(Case):
    def test_properties(self):
        self.assertEqual([SERVICE.login, SERVICE.account, SERVICE.change, SERVICE.session], [PIN, DUE, FRESH, LOG])
        self.same(SERVICE.modules, ("due", "fresh", "log", "pin"))
        self.same(Service(LOG, PIN, LOG, Stack(PIN, LOG)).modules, ("log", "pin"))
        self.same(Service(Stack(), Stack(), Stack(Stack()), Stack()).modules, ())
        for name in NAMES + ("modules",):
            with self.assertRaises(AttributeError):
                setattr(SERVICE, name, PIN)

    def test_parameters_have_their_names(self):
        self.assertTrue(Service(session=LOG, change=FRESH, account=DUE, login=PIN) == SERVICE)

    def test_six_modules(self):
        self.same(Service(idle_stack("fe"), idle_stack("dc"), idle_stack("ba"), Stack()).modules, tuple("abcdef"))
        self.same(Service(*[idle_stack("abcdef")] * 4).modules, tuple("abcdef"))
        self.same(Service(idle_stack("abc"), idle_stack("bcd"), idle_stack("cde"), idle_stack("def")).modules,
                  tuple("abcdef"))

    def test_seven_modules(self):
        rows = [(("abcdef", "g", "", ""), "account"), (("abc", "def", "cg", ""), "change"),
                (("ab", "cd", "ef", "g"), "session"), (("abcdef", "", "", "abcdefg"[1:]), "session"),
                (("", "abcdef", "bcdefg", "h"), "change"), (("", "", "abcdef", "gh"), "session"),
                (("abcd", "efg", "h", "ijklm"), "account")]
        for names, part in rows:
            self.fails(InvalidService, Service, *[idle_stack(some) for some in names], part=part)

    def test_seven_modules_in_the_first_parameter(self):
        # A stack has six modules at most, so nothing but such an object of another kind can show this.
        class Wide:
            modules = tuple("abcdefg")
        self.fails(InvalidService, Service, Wide(), PIN, PIN, PIN, part="login")

    def test_equality(self):
        same = Service(Stack(Rule("pin", ("ok", "bad", "ignore", "bad"))), DUE, FRESH, LOG)
        self.assertTrue(SERVICE == same)
        self.assertFalse(SERVICE != same)
        for stacks in ((LOG, DUE, FRESH, LOG), (PIN, PIN, FRESH, LOG), (PIN, DUE, LOG, LOG), (PIN, DUE, FRESH, PIN),
                       (DUE, PIN, FRESH, LOG), (PIN, DUE, FRESH, Stack(LOG))):
            self.assertFalse(SERVICE == Service(*stacks))
            self.assertTrue(SERVICE != Service(*stacks))

    def test_equality_with_what_is_no_service(self):
        for other in (PIN, None, 0, "", (PIN, DUE, FRESH, LOG), [PIN, DUE, FRESH, LOG]):
            self.assertFalse(SERVICE == other)
            self.assertFalse(other == SERVICE)
            self.assertTrue(SERVICE != other)


class VisitTest(Case):
    def test_example(self):
        answers = {"pin": "yes", "due": "skip", "fresh": "yes", "log": "no"}
        self.same([visit(SERVICE, answers), phases(SERVICE, answers), asked_in(SERVICE, answers)[1:3],
                   visit(SERVICE, {**answers, "fresh": "no"})],
                  [("opened", "session"), ["login", "account", "change", "session"], [("account", 0), ("change", 0)],
                   ("refused", "change")])
        self.fails(InvalidAnswers, visit, Service(PIN, Stack(), Stack(), Stack()), {}, name="pin")

    def test_each_mark_at_the_end_of_each_phase(self):
        found = {}
        for login in MARKERS:
            for account in MARKERS:
                for change in MARKERS:
                    for session in MARKERS:
                        marks = (login, account, change, session)
                        service = Service(*[MARKERS[mark] for mark in marks])
                        kinds = [kind for kind in ENDS if all(one in (None, mark) for one, mark in zip(kind, marks))]
                        self.assertEqual(len(kinds), 1)
                        self.check(service, kinds[0])
                        found[kinds[0]] = True
        self.assertEqual(len(found), len(ENDS))

    def check(self, service, kind):
        wanted = [name for name, mark in zip(NAMES, kind) if mark is not None]
        for result in plain.RESULTS:
            self.same(visit(service, {"a": result}), ENDS[kind])
            self.same(phases(service, {"a": result}), wanted)
            self.same(asked_in(service, {"a": result}), [(name, 0) for name in wanted])

    def test_empty_stacks(self):
        empty, good = Stack(), MARKERS["good"]
        self.same((visit(Service(empty, empty, empty, empty), {}), phases(Service(empty, empty, empty, empty), {})),
                  (("refused", "login"), ["login"]))
        self.same(visit(Service(good, empty, empty, empty), {"a": "yes"}), ("refused", "change"))
        self.same(visit(Service(good, good, empty, empty), {"a": "yes"}), ("opened", "session"))
        self.same(visit(Service(good, empty, good, empty), {"a": "yes"}), ("opened", "session"))
        self.same(asked_in(Service(good, empty, good, empty), {"a": "yes"}), [("login", 0), ("change", 0)])

    def test_a_phase_begins_with_the_mark_none(self):
        # Were the mark "good" to last, the visit would not come to the phase "change".
        service = Service(MARKERS["good"], MARKERS["none"], MARKERS["good"], Stack(sure("a", "reset")))
        self.same(phases(service, {"a": "no"}), ["login", "account", "change", "session"])
        self.same(visit(Service(MARKERS["good"], MARKERS["none"], MARKERS["none"], Stack()), {"a": "no"}),
                  ("refused", "change"))

    def test_a_rule_that_is_asked_in_several_phases(self):
        stack = Stack(Rule("b", IGNORE), Stack(Rule("a", "required"), Rule("b", "requisite"), Rule("a", "optional")))
        service = Service(stack, stack, stack, Stack(Rule("b", "required")))
        self.same(asked_in(service, {"a": "yes", "b": "yes"}),
                  [(name, number) for name in ("login", "account") for number in range(4)] + [("session", 0)])
        self.same(asked_in(service, {"a": "yes", "b": "gone"}), [("login", 0), ("login", 1), ("login", 2)])
        self.same((visit(service, {"a": "skip", "b": "yes"}), visit(service, {"a": "skip", "b": "skip"})),
                  (("opened", "session"), ("refused", "login")))

    def test_wrong_answers(self):
        right = {"pin": "yes", "due": "skip", "fresh": "yes", "log": "no"}
        rows = [({}, "due"), ({"due": "yes"}, "fresh"), ({"due": "yes", "fresh": "yes", "log": "no"}, "pin"),
                ({**right, "zoo": "yes"}, "zoo"), ({**right, "zoo": "yes", "box": "no"}, "box"),
                ({**right, "zoo": "yes", "log": "ok"}, "log"), ({"pin": "ok", "log": "yes", "fresh": "no"}, "due")]
        wrong_results = ("", "Yes", "ok", "good", None, 0, 1, True, (), ("no",))
        rows += [({**right, "fresh": wrong}, "fresh") for wrong in wrong_results]
        for answers, name in rows:
            for call in (visit, phases, asked_in):
                self.fails(InvalidAnswers, call, SERVICE, answers, name=name)
        for call in (visit, phases, asked_in):
            self.fails(InvalidAnswers, call, Service(Stack(), Stack(), Stack(), Stack()), {"pin": "yes"}, name="pin")
            # Answers are needed of phases, too, that are not run.
            self.fails(InvalidAnswers, call, SERVICE, {"pin": "no", "due": "yes", "fresh": "yes"}, name="log")

    def test_beside_plain_visits(self):
        rng = random.Random(16)
        for service in plain_visits.random_services(rng, MODULES[:3], 60, 2):
            rules = [rule for name in NAMES for rule in getattr(service, name).rules]
            self.same(service.modules, tuple(sorted({rule.module for rule in rules})))
            for answers in plain.all_answers(service.modules):
                told = plain_visits.Visit(service, answers)
                self.same((visit(service, answers), phases(service, answers), asked_in(service, answers)),
                          (told.end, told.phases, told.asked))


if __name__ == "__main__":
    unittest.main()
