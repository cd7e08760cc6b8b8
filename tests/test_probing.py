"""Points 21 and 22: probers."""

import random
import unittest

from loginstacks.errors import Contradiction, InvalidAnswers, InvalidOwn, InvalidWord, TooMany
from loginstacks.probing import Prober
from loginstacks.rules import Rule
from loginstacks.stacks import Stack
from tests import plain
from tests.support import Case, MODULES, idle_stack

KEY_OR_PIN = Stack(Rule("key", "sufficient"), Rule("pin", "required"))
ALL_REQUIRED = Stack(*[Rule(name, "required") for name in "abcdef"])


def asks_if(own, result, hidden, wanted):
    """Rules by which a hidden module lets in if it tells what is wanted, and an own one this result."""
    place = plain.RESULTS.index(result)
    asking = tuple("ignore" if at == place else 1 for at in range(4))
    return [Rule(own, asking), Rule(hidden, tuple("ok" if one == wanted else "ignore" for one in plain.RESULTS))]


def parts_of_module(own, hidden, many):
    """Rules by which the results of a hidden module are of so many kinds."""
    return [rule for result in plain.RESULTS[:many - 1] for rule in asks_if(own, result, hidden, result)]


class PlainProber:
    """What the document says of a prober, by a plain search."""

    def __init__(self, stack, own):
        self.stack, self.own = stack, own
        self.hidden = [name for name in stack.modules if name not in own]
        self.left = plain.all_answers(self.hidden)
        self.choices = plain.all_answers(own)
        self.words = {}

    def word(self, one, choice):
        key = (tuple(one.values()), tuple(choice.values()))
        if key not in self.words:
            self.words[key] = plain.word(self.stack, {**choice, **one})
        return self.words[key]

    def split(self, left, choice):
        return [[one for one in left if self.word(one, choice) == word] for word in ("in", "out")]

    def are_alike(self, one, other):
        return all(self.word(one, choice) == self.word(other, choice) for choice in self.choices)

    def kinds(self):
        found = []
        for one in self.left:
            for kind in found:
                if self.are_alike(kind[0], one):
                    kind.append(one)
                    break
            else:
                found.append([one])
        return found

    def best_choice(self):
        return min(self.choices, key=lambda choice: max(len(part) for part in self.split(self.left, choice)))

    def fewest_runs(self):
        return self.fewest([kind[0] for kind in self.kinds()])

    def fewest(self, left):
        if len(left) == 1:
            return 0
        splits = [self.split(left, choice) for choice in self.choices]
        return 1 + min(max(self.fewest(part) for part in split) for split in splits if [] not in split)

    def sure(self):
        return {name: self.left[0][name] for name in self.hidden if len({one[name] for one in self.left}) == 1}


def plain_told(prober):
    kinds = prober.kinds()
    return (prober.left, kinds, prober.best_choice(), prober.fewest_runs() if len(kinds) < 9 else "TooMany",
            prober.sure())


def told(prober):
    try:
        number = prober.fewest_runs()
    except TooMany:
        number = "TooMany"
    return (prober.candidates, prober.kinds(), prober.best_choice(), number, prober.sure)


class ExamplesTest(Case):
    def test_example(self):
        prober = Prober(KEY_OR_PIN, ("pin",))
        self.same([prober.best_choice(), prober.fewest_runs(), prober.run({"pin": "no"}, "out"), prober.kinds(),
                   prober.sure], [{"pin": "no"}, 1, 3, [[{"key": "no"}, {"key": "skip"}, {"key": "gone"}]], {}])

    def test_example_error(self):
        self.fails(InvalidWord, Prober(Stack(Rule("pin", "required")), ()).run, {}, "maybe")


class OwnTest(Case):
    def test_none_one_and_three_own_modules(self):
        for own in ((), ("a",), ("b",), ("a", "b", "c")):
            hidden = [name for name in "abc" if name not in own]
            prober = Prober(idle_stack("abc"), own)
            self.same(prober.candidates, plain.all_answers(hidden))
            self.same((prober.history, prober.run(dict.fromkeys(own, "yes"), "out")), ([], 4 ** len(hidden)))
        self.same(len(Prober(ALL_REQUIRED, ("a", "b", "f")).candidates), 64)

    def test_no_modules_at_all(self):
        prober = Prober(Stack(Stack()), ())
        self.same(told(prober), ([{}], [[{}]], {}, 0, {}))
        self.same((prober.run({}, "out"), prober.history), (1, [({}, "out")]))
        self.fails(Contradiction, prober.run, {}, "in")

    def test_too_many_own_modules(self):
        for own in (("a", "b", "c", "d"), ("a", "b", "c", "d", "e", "f")):
            self.fails(InvalidOwn, Prober, ALL_REQUIRED, own)
        self.fails(InvalidOwn, Prober, idle_stack("abcd"), ("a", "b", "c", "d"))
        self.same(len(Prober(idle_stack("abcd"), ("a", "b", "d")).candidates), 4)

    def test_too_many_hidden_modules(self):
        self.fails(InvalidOwn, Prober, ALL_REQUIRED, ("a", "b"))
        self.fails(InvalidOwn, Prober, ALL_REQUIRED, ())
        self.fails(InvalidOwn, Prober, idle_stack("abcd"), ())
        self.same(len(Prober(idle_stack("abcd"), ("c",)).candidates), 64)

    def test_other_tuples(self):
        stack = idle_stack("abcd")
        for own in (("b", "a"), ("a", "c", "b"), ("a", "a"), ("a", "b", "b"), ("a", "e"), ("z",), ("",), (None,), (0,),
                    (True, "a"), (("a",),), (["a"],), ("a", "b", "c", "c"), ("a", "b", None)):
            self.fails(InvalidOwn, Prober, stack, own)

    def test_no_tuple(self):
        for own in (["a"], "a", "abc", {"a": "yes"}, {"a"}, None, 1, True, []):
            self.fails(InvalidOwn, Prober, idle_stack("abc"), own)


class RunTest(Case):
    def test_candidates_in_order(self):
        prober = Prober(Stack(Rule("c", "required"), Rule("a", "required"), Rule("b", "required")), ("b",))
        self.same(prober.candidates, plain.all_answers("ac"))
        self.same(prober.run({"b": "yes"}, "in"), 4)

    def test_number_that_remains(self):
        prober = Prober(Stack(*[Rule(name, "required") for name in "abc"]), ("b",))
        left = prober.candidates
        for choice, word in (({"b": "no"}, "out"), ({"b": "skip"}, "in"), ({"b": "yes"}, "in")):
            left = [one for one in left if plain.word(ALL_REQUIRED.without((3, 4, 5)), {**one, **choice}) == word]
            self.same(prober.run(choice, word), len(left))
            self.same(prober.candidates, left)
        self.same([choice for choice, _ in prober.history], [{"b": "no"}, {"b": "skip"}, {"b": "yes"}])

    def test_wrong_answers(self):
        prober = Prober(idle_stack("abcd"), ("b", "d"))
        for choice, name in (({}, "b"), ({"b": "yes"}, "d"), ({"d": "yes"}, "b"), ({"b": "yes", "d": "ok"}, "d"),
                             ({"b": None, "d": "yes"}, "b"), ({"b": True, "d": 1}, "b"), ({"d": "in", "b": "no"}, "d"),
                             ({"a": "yes", "b": "yes", "d": "yes"}, "a"), ({"b": "no", "d": "no", "e": "no"}, "e"),
                             ({"c": "yes", "d": "yes"}, "b")):
            for word in ("out", "in", "maybe"):
                self.fails(InvalidAnswers, prober.run, choice, word, name=name)
        self.same((len(prober.candidates), prober.history), (16, []))

    def test_own_modules_when_there_are_none(self):
        self.fails(InvalidAnswers, Prober(KEY_OR_PIN, ()).run, {"pin": "yes"}, "in", name="pin")

    def test_wrong_words(self):
        prober = Prober(idle_stack("ab"), ("a",))
        for word in ("", "In", "open", "yes", None, True, 0, ("in",), ["in"]):
            self.fails(InvalidWord, prober.run, {"a": "yes"}, word)
        self.same((len(prober.candidates), prober.history), (4, []))

    def test_contradiction(self):
        prober = Prober(KEY_OR_PIN, ("pin",))
        self.fails(Contradiction, prober.run, {"pin": "yes"}, "out")
        prober.run({"pin": "no"}, "in")
        before = (prober.candidates, prober.history, prober.sure, prober.kinds())
        self.fails(Contradiction, prober.run, {"pin": "no"}, "out")
        self.fails(Contradiction, prober.run, {"pin": "yes"}, "out")
        self.fails(InvalidWord, prober.run, {"pin": "no"}, "off")
        self.fails(InvalidAnswers, prober.run, {}, "off", name="pin")
        self.same((prober.candidates, prober.history, prober.sure, prober.kinds()), before)
        self.same(before, ([{"key": "yes"}], [({"pin": "no"}, "in")], {"key": "yes"}, [[{"key": "yes"}]]))

    def test_the_same_run_twice_is_counted_twice(self):
        prober = Prober(KEY_OR_PIN, ("pin",))
        self.same([prober.run({"pin": "no"}, "out") for _ in range(2)], [3, 3])
        self.same(prober.history, [({"pin": "no"}, "out")] * 2)


class SureTest(Case):
    def test_in_ascending_order(self):
        prober = Prober(Stack(Rule("c", "requisite"), Rule("a", "requisite"), Rule("b", "requisite")), ("b",))
        self.same(prober.sure, {})
        prober.run({"b": "skip"}, "out")
        self.same(prober.sure, {})
        stack = Stack(*[Rule(name, ("ok", "die", "die", "die")) for name in "dbca"])
        prober = Prober(stack, ("b",))
        prober.run({"b": "yes"}, "in")
        self.same(prober.sure, {"a": "yes", "c": "yes", "d": "yes"})

    def test_only_those_that_tell_the_same(self):
        prober = Prober(Stack(Rule("a", ("ok", "die", "die", "die")), Rule("b", "optional"), Rule("c", "optional")),
                        ("c",))
        prober.run({"c": "yes"}, "in")
        self.same((prober.sure, len(prober.candidates)), ({"a": "yes"}, 4))

    def test_nothing_is_hidden(self):
        prober = Prober(KEY_OR_PIN, ("key", "pin"))
        self.same((prober.candidates, prober.sure, prober.kinds(), prober.fewest_runs()), ([{}], {}, [[{}]], 0))
        self.same(prober.run({"key": "no", "pin": "yes"}, "in"), 1)
        self.fails(Contradiction, prober.run, {"key": "no", "pin": "no"}, "in")
        self.same(prober.best_choice(), {"key": "yes", "pin": "yes"})


class KeepingTest(Case):
    def test_a_choice_that_is_changed_later(self):
        prober = Prober(KEY_OR_PIN, ("pin",))
        choice = {"pin": "no"}
        prober.run(choice, "out")
        choice["pin"] = "yes"
        choice["zoo"] = "yes"
        self.same(prober.history, [({"pin": "no"}, "out")])

    def test_each_reading_is_new(self):
        prober = Prober(KEY_OR_PIN, ("pin",))
        prober.run({"pin": "no"}, "in")

        def all_told():
            return [prober.candidates, prober.history, prober.sure, prober.kinds(), prober.best_choice()]

        before = repr(all_told())
        for part in all_told():
            part.clear()
        prober.candidates[0]["key"] = "no"
        prober.history[0][0]["pin"] = "yes"
        prober.kinds()[0][0]["key"] = "no"
        prober.kinds()[0].clear()
        self.assertEqual(repr(all_told()), before)
        self.same(prober.run({"pin": "no"}, "in"), 1)

    def test_properties_cannot_be_assigned(self):
        for name in ("candidates", "history", "sure"):
            with self.assertRaises(AttributeError):
                setattr(Prober(KEY_OR_PIN, ()), name, [])


class KindsTest(Case):
    def test_in_the_order_of_the_first_ones(self):
        prober = Prober(Stack(Rule("key", (1, "ignore", 1, 1)), Rule("pin", "required")), ("pin",))
        self.same(prober.kinds(), [[{"key": "yes"}, {"key": "skip"}, {"key": "gone"}], [{"key": "no"}]])

    def test_of_those_that_remain_only(self):
        prober = Prober(Stack(Rule("key", (1, "ignore", 1, "ignore")), Rule("pin", "required")), ("pin",))
        prober.run({"pin": "yes"}, "in")
        self.same(prober.kinds(), [[{"key": "no"}, {"key": "gone"}]])
        self.same(prober.fewest_runs(), 0)

    def test_best_choice_is_the_first_of_several(self):
        stack = Stack(Rule("pin", (1, "ignore", 1, "ignore")), Rule("key", "optional"))
        self.same(Prober(stack, ("pin",)).best_choice(), {"pin": "no"})
        self.same(Prober(idle_stack("ab"), ("b",)).best_choice(), {"b": "yes"})

    def test_best_choice_leaves_the_fewest(self):
        # First the results of "hid" are parted into one and three, or, behind a jump, into two and two.
        ahead = [Rule("hid", ("ok", "ignore", "ignore", "ignore")), Rule("own", (9, 9, 9, 9)),
                 Rule("hid", ("ok", "ok", "ignore", "ignore"))]
        for control, best in ((("ignore", 2, 2, 2), "no"), (("ignore", "ignore", 2, "ignore"), "skip"),
                              ((2, "ignore", 2, "ignore"), "yes"), (("ignore", "ignore", "ignore", 2), "gone")):
            self.same(Prober(Stack(Rule("own", control), *ahead), ("own",)).best_choice(), {"own": best})

    def test_without_own_modules(self):
        prober = Prober(Stack(Rule("a", "required"), Rule("b", "required")), ())
        self.same((prober.best_choice(), prober.fewest_runs(), len(prober.kinds())), ({}, 1, 2))
        prober.run({}, "out")
        self.same((prober.best_choice(), prober.fewest_runs(), len(prober.kinds())), ({}, 0, 1))

    def test_one_by_one(self):
        stack = Stack(*[rule for result in plain.RESULTS for rule in asks_if("own", result, "hid", result)])
        prober = Prober(stack, ("own",))
        numbers = [prober.fewest_runs()]
        for result in ("gone", "no", "yes"):
            prober.run({"own": result}, "out")
            numbers.append(prober.fewest_runs())
        self.same((numbers, prober.sure), ([3, 2, 1, 0], {"hid": "skip"}))

    def test_all_that_remain_are_alike(self):
        self.same(Prober(idle_stack("abcd"), ("a",)).fewest_runs(), 0)
        self.same(len(Prober(idle_stack("abcd"), ("a",)).kinds()), 1)


class ManyKindsTest(Case):
    def test_eight_kinds(self):
        rules = [rule for own, hidden in ("ad", "be", "cf") for rule in parts_of_module(own, hidden, 2)]
        prober = Prober(Stack(*rules), ("a", "b", "c"))
        self.same((len(prober.kinds()), prober.fewest_runs()), (8, 3))
        prober = Prober(Stack(*parts_of_module("a", "c", 4), *parts_of_module("b", "d", 2)), ("a", "b"))
        self.same((len(prober.kinds()), prober.fewest_runs()), (8, 4))

    def test_nine_kinds(self):
        rules = parts_of_module("a", "c", 3) + parts_of_module("b", "d", 3)
        prober = Prober(Stack(*rules), ("a", "b"))
        self.same(len(prober.kinds()), 9)
        before = (prober.candidates, prober.history)
        self.fails(TooMany, prober.fewest_runs)
        self.same((prober.candidates, prober.history), before)
        self.same(prober.best_choice(), PlainProber(Stack(*rules), ("a", "b")).best_choice())
        # Behind a run there are fewer kinds.
        prober.run({"a": "yes", "b": "gone"}, "out")
        self.same((len(prober.kinds()), prober.fewest_runs()), (6, 3))

    def test_many_kinds(self):
        rules = [rule for own, hidden in ("ad", "be", "cf") for rule in parts_of_module(own, hidden, 3)]
        prober = Prober(Stack(*rules), ("a", "b", "c"))
        self.same(len(prober.kinds()), 27)
        self.fails(TooMany, prober.fewest_runs)


class PlainSearchTest(Case):
    def test_beside_a_plain_search(self):
        rng = random.Random(21)
        for _ in range(120):
            stack = plain.random_stack(rng, MODULES[:4], 9)
            own = tuple(sorted(rng.sample(stack.modules, min(len(stack.modules), rng.randint(1, 2)))))
            prober, other = Prober(stack, own), PlainProber(stack, own)
            self.same(told(prober), plain_told(other))
            for _ in range(2):
                self.check_run(prober, other, rng)

    def check_run(self, prober, other, rng):
        choice, word = rng.choice(other.choices), rng.choice(("in", "out"))
        left = [one for one in other.left if other.word(one, choice) == word]
        if not left:
            self.fails(Contradiction, prober.run, choice, word)
        else:
            other.left = left
            self.same(prober.run(choice, word), len(left))
        self.same(told(prober), plain_told(other))

    def test_larger_ones(self):
        rng = random.Random(22)
        for _ in range(6):
            stack = plain.random_stack(rng, MODULES[:6], 12)
            if len(stack.modules) < 5:
                continue
            own = tuple(sorted(rng.sample(stack.modules, 3)))
            self.same(told(Prober(stack, own)), plain_told(PlainProber(stack, own)))


if __name__ == "__main__":
    unittest.main()
