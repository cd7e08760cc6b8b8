"""loginstacks/errors.py: the classes, their base and their attributes."""

import unittest

from loginstacks import errors
from tests.support import Case

PLAIN = ("InvalidPlace", "TooMany", "UnknownModule", "InvalidMode", "UnknownView", "InvalidNumber", "InvalidOwn",
         "InvalidWord", "Contradiction", "InvalidName", "UnknownName", "TooLong")
ATTRIBUTES = {
    "InvalidRule": "part", "InvalidStack": "index", "UnknownRule": "index",
    "InvalidAnswers": "name", "InvalidWeights": "name", "InvalidService": "part", "InvalidNeeds": "name",
    "InvalidCosts": "name", "InvalidLock": "part", "InvalidEvent": "index", "InvalidSuspects": "index",
    "PromiseBroken": "index", "InvalidOperation": "index", "DecodeError": "offset", "ScriptError": "row",
    "ExecutionFailed": "row",
}


class ErrorsTest(Case):
    def test_base_class(self):
        self.assertEqual(errors.StackError.__bases__, (ValueError,))

    def test_direct_subclasses(self):
        for name in PLAIN + tuple(ATTRIBUTES):
            self.assertEqual(getattr(errors, name).__bases__, (errors.StackError,), name)

    def test_attributes(self):
        for name, attribute in ATTRIBUTES.items():
            for error in (getattr(errors, name)("pin"), getattr(errors, name)(**{attribute: "pin"})):
                self.assertEqual(vars(error), {attribute: "pin"})
                self.assertTrue(str(error))

    def test_row_and_word(self):
        self.assertEqual(errors.InvalidText.__bases__, (errors.StackError,))
        for error in (errors.InvalidText(3, 1), errors.InvalidText(word=1, row=3)):
            self.assertEqual(vars(error), {"row": 3, "word": 1})
            self.assertTrue(str(error))

    def test_there_are_no_others(self):
        names = [name for name, value in vars(errors).items() if isinstance(value, type)]
        self.assertEqual(sorted(names), sorted(("StackError", "InvalidText") + PLAIN + tuple(ATTRIBUTES)))

    def test_plain_ones_take_a_message(self):
        for name in PLAIN:
            self.assertEqual(str(getattr(errors, name)("why")), "why")


if __name__ == "__main__":
    unittest.main()
