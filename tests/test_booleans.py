"""Point 1: True and False are not integers, wherever the document names numbers."""

import unittest

from loginstacks.codec import decode_stack, encode_stack
from loginstacks.ends import cheapest_bar, cheapest_key
from loginstacks.errors import (DecodeError, InvalidCosts, InvalidEvent, InvalidLock, InvalidNumber, InvalidPlace, InvalidRule,
                                InvalidWeights, UnknownRule, UnknownView)
from loginstacks.locks import Lock, least_time, locked_until, locked_visits, most_refusals
from loginstacks.registers import Register
from loginstacks.removing import least_risk
from loginstacks.rules import Rule
from loginstacks.services import Service
from loginstacks.stacks import Stack
from loginstacks.watching import could_be
from loginstacks.weights import gain, share_blamed, share_in
from tests.support import Case

PIN, KEY = Rule("pin", "required"), Rule("key", "required")
STACK = Stack(PIN, Stack(KEY, PIN), KEY)
SERVICE = Service(STACK, STACK, Stack(), Stack())
ANSWERS = {"key": "yes", "pin": "yes"}


class BooleansTest(Case):
    def test_in_rules_and_stacks(self):
        for value in (True, False):
            self.fails(InvalidRule, Rule, "pin", (value, 1, 1, 1), part="control")
            self.fails(InvalidRule, Rule, "pin", (1, 1, 1, value), part="control")
            self.fails(InvalidRule, Rule, value, value, part="module")
            self.fails(InvalidRule, Rule, "pin", value, part="control")
            self.fails(UnknownRule, STACK.without, (value,), index=0)
            self.fails(UnknownRule, STACK.without, (3, value), index=1)
            self.fails(InvalidPlace, STACK.spliced, value, 1, ())
            self.fails(InvalidPlace, STACK.spliced, 1, value, ())

    def test_in_views(self):
        stack = Stack(PIN, KEY)
        for view in (("out", True), ("in", (False, True)), ("in", (False, 1)), (True,)):
            self.fails(UnknownView, could_be, stack, view)

    def test_in_weights_and_costs(self):
        for value in (True, False):
            weights = {"key": (1, 1, 1, 1), "pin": (1, value, 1, 1)}
            self.fails(InvalidWeights, share_in, STACK, weights, name="pin")
            self.fails(InvalidWeights, share_blamed, STACK, weights, name="pin")
            self.fails(InvalidWeights, gain, STACK, weights, "pin", name="pin")
            for call in (cheapest_key, cheapest_bar):
                self.fails(InvalidCosts, call, SERVICE, {"key": 1, "pin": value}, name="pin")

    def test_in_locks_and_events(self):
        lock = Lock(1, 1, 1)
        for value in (True, False):
            for part, numbers in (("tries", (value, 1, 1)), ("pause", (1, value, 1)), ("growth", (1, 1, value))):
                self.fails(InvalidLock, Lock, *numbers, part=part)
            for call in (locked_visits, locked_until):
                self.fails(InvalidEvent, call, SERVICE, lock, [(0, "ann", ANSWERS), (value, "ann", ANSWERS)], index=1)
            self.fails(InvalidNumber, most_refusals, lock, value)
            self.fails(InvalidNumber, least_time, lock, value)

    def test_in_registers(self):
        for value in (True, False):
            desk = Register(STACK)
            self.fails(InvalidPlace, desk.put, value, PIN)
            self.fails(InvalidPlace, desk.take, value)
            self.fails(InvalidPlace, desk.swap, value)
            self.fails(UnknownRule, desk.turn, value, "optional", index=0)
            for operation in (("put", value, PIN), ("take", value), ("swap", value)):
                self.fails(InvalidPlace, desk.apply_all, [("take", 0), operation])
            self.assertEqual((desk.stack(), desk.history), (STACK, []))

    def test_in_removing(self):
        self.fails(UnknownRule, least_risk, STACK, (True,), index=0)
        self.fails(UnknownRule, least_risk, STACK, (1, False), index=1)

    def test_in_codes(self):
        code = encode_stack(STACK)
        for offset, item in enumerate(code):
            if item in (0, 1):
                self.fails(DecodeError, decode_stack, code[:offset] + [item == 1] + code[offset + 1:], offset=offset)

    def test_results_are_no_booleans(self):
        desk = Register(STACK)
        for found in (desk.take(0), desk.put(0, PIN), desk.swap(0), desk.turn(0, "optional"), desk.take(2),
                      desk.promise({"pin": "no"}, "out")):
            self.assertIs(type(found), int)
        self.assertIs(type(desk.store("a")), bool)
        self.assertIs(type(desk.go("a")), int)
        self.assertIs(type(desk.undo()), bool)


if __name__ == "__main__":
    unittest.main()
