"""Point 18: ends of visits, and what it costs to see to them."""

import random
import unittest
from collections import Counter

from loginstacks.ends import cheapest_bar, cheapest_key, ends, first_with
from loginstacks.errors import InvalidCosts
from loginstacks.rules import Rule
from loginstacks.services import Service
from loginstacks.stacks import Stack
from tests import plain, plain_visits
from tests.support import Case, IGNORE, MODULES, idle_stack, sure

KEY_OR_PIN = Stack(Rule("key", "sufficient"), Rule("pin", "required"))
EMPTY = Stack()
SERVICE = Service(KEY_OR_PIN, KEY_OR_PIN, EMPTY, EMPTY)
NOTHING = Service(EMPTY, EMPTY, EMPTY, EMPTY)
GOOD, STRICT = Stack(sure("a", "ok")), ("ok", "die", "die", "die")


def opening(stack):
    """A service that is opened by those whom a stack lets in."""
    return Service(stack, GOOD, EMPTY, EMPTY)


def plain_cheapest(service, costs, result, is_one):
    """The cheapest of all sets that is one beside the modules with "yes" of all answers with this result."""
    accepted = [{name for name in row if row[name] == "yes"} for row, end in plain_visits.all_ends(service)
                if end[0] == result]
    found = [chosen for chosen in plain.tuples_of(service.modules) if all(is_one(set(chosen), one) for one in accepted)]
    rows = [(sum(costs[name] for name in chosen), len(chosen), chosen) for chosen in found]
    return (min(rows)[0], min(rows)[2]) if rows else None


def plain_key(service, costs):
    return plain_cheapest(service, costs, "refused", lambda chosen, accepted: chosen - accepted != set())


def plain_bar(service, costs):
    return plain_cheapest(service, costs, "opened", lambda chosen, accepted: chosen & accepted != set())


class EndsTest(Case):
    def test_example(self):
        costs = {"key": 5, "pin": 3}
        self.same([ends(SERVICE), first_with(SERVICE, "refused", "login"), cheapest_key(SERVICE, costs),
                   cheapest_bar(SERVICE, costs)],
                  [[("refused", "login", 9), ("opened", "session", 7)], {"key": "no", "pin": "no"}, (3, ("pin",)),
                   (8, ("key", "pin"))])

    def test_all_five_in_order(self):
        rules = [Rule("a", ("bad", "ok", "ok", "ok")), Rule("b", ("bad", "ok", "ignore", "ignore")),
                 Rule("b", ("ok", "ok", "bad", "ok")), Rule("c", ("bad", "ignore", "ignore", "ok"))]
        service = Service(*[Stack(rule) for rule in rules])
        self.same(ends(service), [("refused", "login", 16), ("refused", "account", 12), ("refused", "change", 12),
                                  ("refused", "session", 6), ("opened", "session", 18)])
        self.same([first_with(service, *end) for end in plain_visits.ENDS],
                  [{"a": "yes", "b": "yes", "c": "yes"}, {"a": "no", "b": "yes", "c": "yes"},
                   {"a": "no", "b": "skip", "c": "yes"}, {"a": "no", "b": "no", "c": "yes"},
                   {"a": "no", "b": "no", "c": "no"}])

    def test_no_answers_end_so(self):
        self.same(ends(NOTHING), [("refused", "login", 1)])
        self.same([first_with(NOTHING, *end) for end in plain_visits.ENDS], [{}, None, None, None, None])
        always = Service(GOOD, GOOD, Stack(Rule("b", IGNORE)), EMPTY)
        self.same(ends(always), [("opened", "session", 16)])
        self.same([first_with(always, *end) for end in plain_visits.ENDS], [None] * 4 + [{"a": "yes", "b": "yes"}])

    def test_what_is_no_end(self):
        for result, phase in (("opened", "login"), ("opened", "account"), ("opened", "change"), ("locked", "login"),
                              ("refused", "logout"), ("in", "session")):
            self.same(first_with(SERVICE, result, phase), None)

    def test_first_answers_are_in_ascending_order_of_names(self):
        self.assertEqual(list(first_with(Service(idle_stack("cb"), EMPTY, EMPTY, idle_stack("a")), "refused", "login")),
                         ["a", "b", "c"])

    def test_beside_a_plain_count(self):
        rng = random.Random(18)
        many = Counter()
        for service in plain_visits.random_services(rng, MODULES[:3], 80, 2):
            rows = plain_visits.all_ends(service)
            count = Counter(end for _, end in rows)
            self.same(ends(service), [(*end, count[end]) for end in plain_visits.ENDS if count[end] > 0])
            for end in plain_visits.ENDS:
                self.same(first_with(service, *end), next((row for row, one in rows if one == end), None))
            many.update(count.keys())
        self.assertTrue(all(many[end] > 5 for end in plain_visits.ENDS), many)


class CheapestTest(Case):
    def test_of_several_with_the_same_sum_the_shortest(self):
        stack = Stack(Rule("c", "sufficient"), Rule("a", STRICT), Rule("b", STRICT))
        self.same(cheapest_key(opening(stack), {"a": 2, "b": 3, "c": 5}), (5, ("c",)))
        self.same(cheapest_key(opening(stack), {"a": 2, "b": 2, "c": 5}), (4, ("a", "b")))
        self.same(cheapest_key(opening(stack), {"a": 0, "b": 0, "c": 0}), (0, ("c",)))
        self.same(cheapest_bar(opening(stack), {"a": 0, "b": 0, "c": 7}), (7, ("a", "c")))

    def test_then_the_first_one_in_tuple_order(self):
        stack = Stack(*[Rule(name, "sufficient") for name in "dbca"])
        self.same(cheapest_key(opening(stack), {"a": 4, "b": 1, "c": 1, "d": 1}), (1, ("b",)))
        pairs = Stack(Rule("d", ("ignore", 1, 1, 1)), Rule("a", ("done",) + ("ignore",) * 3),
                      Rule("b", ("ignore", 1, 1, 1)), Rule("c", ("done",) + ("ignore",) * 3))
        self.same(cheapest_key(opening(pairs), {"a": 1, "b": 1, "c": 1, "d": 1}), (2, ("a", "d")))
        self.same(cheapest_bar(opening(pairs), {"a": 1, "b": 1, "c": 1, "d": 1}), (2, ("a", "b")))
        self.same(cheapest_bar(opening(pairs), {"a": 1, "b": 1, "c": 0, "d": 1}), (1, ("a", "c")))

    def test_needless_modules_are_not_added_for_nothing(self):
        stack = Stack(Rule("b", STRICT), Rule("a", IGNORE))
        self.same(cheapest_key(opening(stack), {"a": 0, "b": 1000}), (1000, ("b",)))
        self.same(cheapest_bar(opening(stack), {"a": 0, "b": 0}), (0, ("b",)))

    def test_the_empty_tuple(self):
        self.same((cheapest_key(opening(GOOD), {"a": 9}), cheapest_bar(opening(GOOD), {"a": 9})), ((0, ()), None))
        never = opening(Stack(sure("b", "die")))
        self.same((cheapest_key(never, {"a": 9, "b": 0}), cheapest_bar(never, {"a": 9, "b": 0})), (None, (0, ())))
        self.same((cheapest_key(NOTHING, {}), cheapest_bar(NOTHING, {})), (None, (0, ())))

    def test_none(self):
        harmful = opening(Stack(Rule("a", ("bad", "ok", "ok", "ok"))))
        self.same((cheapest_key(harmful, {"a": 1}), cheapest_bar(harmful, {"a": 1})), (None, None))

    def test_all_phases_count(self):
        service = Service(Stack(Rule("a", STRICT)), Stack(Rule("b", STRICT)), EMPTY,
                          Stack(Rule("c", ("ignore", "bad", "bad", "bad"))))
        self.same(cheapest_key(service, {"a": 1, "b": 20, "c": 300}), (321, ("a", "b", "c")))
        self.same(cheapest_bar(service, {"a": 20, "b": 20, "c": 20}), (20, ("a",)))
        self.same(cheapest_bar(service, {"a": 20, "b": 20, "c": 19}), (19, ("c",)))

    def test_a_phase_that_is_not_run_needs_nothing(self):
        service = Service(Stack(Rule("a", STRICT)), Stack(Rule("a", STRICT)), Stack(Rule("b", STRICT)), EMPTY)
        self.same(cheapest_key(service, {"a": 1000, "b": 0}), (1000, ("a",)))

    def test_beside_a_plain_search(self):
        rng = random.Random(181)
        for service in plain_visits.random_services(rng, MODULES[:4], 40, 2) + [SERVICE, NOTHING]:
            for choices in ((0, 1, 2, 1000), (1,), tuple(range(1001))):
                costs = {name: rng.choice(choices) for name in service.modules}
                self.same(cheapest_key(service, costs), plain_key(service, costs))
                self.same(cheapest_bar(service, costs), plain_bar(service, costs))

    def test_rich_ones_beside_a_plain_search(self):
        rng = random.Random(182)
        longer = 0
        for _ in range(60):
            words = Stack(*[Rule(rng.choice("bcde"), rng.choice(sorted(plain.KINDS) + [STRICT])) for _ in range(5)])
            service = opening(words)
            costs = {name: rng.choice((0, 1, 1, 2, 3)) for name in service.modules}
            key, bar = plain_key(service, costs), plain_bar(service, costs)
            self.same((cheapest_key(service, costs), cheapest_bar(service, costs)), (key, bar))
            longer += any(one is not None and len(one[1]) > 1 for one in (key, bar))
        self.assertGreater(longer, 20)


class WrongTest(Case):
    def check(self, costs, name, service=SERVICE):
        for call in (cheapest_key, cheapest_bar):
            self.fails(InvalidCosts, call, service, costs, name=name)

    def test_missing_and_superfluous(self):
        self.check({}, "key")
        self.check({"key": 1}, "pin")
        self.check({"pin": 1}, "key")
        self.check({"key": 1, "pin": 1, "zoo": 1, "tan": 1}, "tan")
        self.check({"a": 1}, "a", NOTHING)

    def test_no_such_cost(self):
        for wrong in (-1, 1001, True, False, "1", "", None, (1,), [1], {}):
            self.check({"key": 1, "pin": wrong}, "pin")
            self.check({"key": wrong, "pin": wrong}, "key")

    def test_the_least_name(self):
        self.check({"zoo": 1, "pin": None}, "key")
        self.check({"zoo": 1, "pin": None, "key": 0}, "pin")
        self.check({"zoo": -1, "pin": 0, "key": 0}, "zoo")
        self.check({"box": 1, "pin": None}, "box")

    def test_the_bounds_themselves(self):
        self.same(cheapest_key(SERVICE, {"key": 1000, "pin": 1000}), (1000, ("key",)))
        self.same(cheapest_bar(SERVICE, {"key": 0, "pin": 1000}), (1000, ("key", "pin")))


if __name__ == "__main__":
    unittest.main()
