"""Point 2: rules."""

import unittest

from loginstacks.errors import InvalidRule
from loginstacks.rules import Rule
from tests.plain import ACTIONS, KINDS
from tests.support import Case

GOOD_MODULES = ("a", "z", "pin", "abcdefgh", "required", "yes")
WRONG_MODULES = (
    "", "abcdefghi", "Pin", "piN", "p1n", "pin ", " pin", "p n", "p-n", "p_n", "pin\n", "1", "p\u00efn", "\u00df",
    "\u0430", 0, 1, -1, 3, True, False, None, (), ("pin",), ("p", "i", "n"), (None, True),
)
WRONG_CONTROLS = (
    "", "Required", "required ", "require", "requireds", "ok", "ignore", "skip", "pin", 0, 1, 4, 9, True, False, None,
    (), ("ok",), ("ok", "bad", "ignore"), ("ok", "bad", "ignore", "bad", "ok"), ("required",), ("required",) * 4,
    (None,) * 4, (True,) * 4, (0,) * 4,
)
WRONG_ACTIONS = (0, 10, 11, -1, 100, True, False, None, "", "Ok", "good", "required", "ok ", "1", (), ("ok",), (1,))


def at_each_place(value, other):
    return [tuple(value if at == place else other for at in range(4)) for place in range(4)]


class RulesTest(Case):
    def test_example(self):
        rules = [Rule("pin", "requisite").control, Rule("pin", ("ok", "bad", "ignore", "bad")).kind,
                 Rule("lan", (2, "reset", "ignore", "die")).kind]
        self.same(rules, [("ok", "die", "ignore", "die"), "required", None])

    def test_example_error(self):
        self.fails(InvalidRule, Rule, "pin", ("ok", "bad", "ignore", 0), part="control")

    def test_modules(self):
        for module in GOOD_MODULES:
            self.assertEqual(Rule(module, "required").module, module)

    def test_wrong_modules(self):
        for module in WRONG_MODULES:
            with self.subTest(module=module):
                self.fails(InvalidRule, Rule, module, "required", part="module")
                self.fails(InvalidRule, Rule, module, ("ok", 9, 1, "reset"), part="module")

    def test_wrong_controls(self):
        for control in WRONG_CONTROLS:
            with self.subTest(control=control):
                self.fails(InvalidRule, Rule, "pin", control, part="control")

    def test_wrong_actions(self):
        for action in WRONG_ACTIONS:
            for control in at_each_place(action, "ok") + at_each_place(action, 1):
                with self.subTest(control=control):
                    self.fails(InvalidRule, Rule, "pin", control, part="control")

    def test_both_wrong(self):
        for module in WRONG_MODULES:
            for control in WRONG_CONTROLS:
                self.fails(InvalidRule, Rule, module, control, part="module")

    def test_all_actions(self):
        for action in ACTIONS:
            for control in at_each_place(action, "reset"):
                self.same(Rule("pin", control).control, control)

    def test_words_and_their_tuples(self):
        for word, actions in KINDS.items():
            for control in (word, actions):
                rule = Rule("pin", control)
                self.same((rule.module, rule.control, rule.kind), ("pin", actions, word))

    def test_no_kind(self):
        for control in [("ok",) * 4, ("ok", "bad", "ignore", "die"), ("done", "ignore", "ignore", 1)]:
            self.assertIsNone(Rule("pin", control).kind)

    def test_kind_needs_all_four_actions(self):
        for actions in KINDS.values():
            for place in range(4):
                control = actions[:place] + ("reset",) + actions[place + 1:]
                self.assertIsNone(Rule("pin", control).kind)

    def test_equality(self):
        one = Rule("pin", "required")
        self.assertTrue(one == Rule("pin", "required"))
        self.assertTrue(one == Rule("pin", ("ok", "bad", "ignore", "bad")))
        self.assertFalse(one != Rule("pin", "required"))
        for other in (Rule("pin", "requisite"), Rule("pim", "required"), Rule("key", "optional"),
                      Rule("pin", ("ok", "bad", "ignore", 1))):
            self.assertFalse(one == other)
            self.assertTrue(one != other)

    def test_equality_with_what_is_no_rule(self):
        one = Rule("pin", "required")
        for other in ("pin", None, 0, True, (), ("pin", "required"), ("pin", one.control), [one]):
            self.assertFalse(one == other)
            self.assertFalse(other == one)
            self.assertTrue(one != other)

    def test_properties_cannot_be_assigned(self):
        for name in ("module", "control", "kind"):
            with self.assertRaises(AttributeError):
                setattr(Rule("pin", "required"), name, "pin")


if __name__ == "__main__":
    unittest.main()
